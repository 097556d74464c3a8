"""Watches over questions while rows come and go."""

from answercut.blame import blame
from answercut.books import MOST_TABLES, MOST_WIDTH, is_integer, is_name, with_row, without_row
from answercut.errors import NameTaken, NoMark, NoQuestion, NoRow, NoTable, RowTaken, TooMany
from answercut.nets import least_cut
from answercut.questions import need_closed, need_prices

MOST_QUESTIONS = 8


class Watch:
    """A book, pinned rows and questions with prices, and what is told of these questions.

    A state has the book, the pinned rows, the kept questions (name, question, prices) and what is told of each. No
    state is changed once it is there, so that going back is taking an earlier one again.
    """

    def __init__(self):
        self._state = ({}, (), (), {})
        self._deeds = []
        self._earlier = []

    def set_table(self, name, width):
        """Set a table without rows."""
        book, pins, kept, _ = self._state
        if not is_name(name) or not is_integer(width) or not 1 <= width <= MOST_WIDTH:
            raise NoTable("a table has a name and a width from 1 to 6")
        if name in book:
            raise NameTaken("a table has this name")
        if len(book) >= MOST_TABLES:
            raise TooMany(MOST_TABLES)
        return self._do(("table", name, width), {**book, name: (width, ())}, pins, kept)

    def come(self, table, row):
        """Let a row come."""
        book, pins, kept, _ = self._state
        return self._do(("come", table, row), with_row(book, table, row), pins, kept)

    def go(self, table, row):
        """Let a row go, with its pin."""
        book, pins, kept, _ = self._state
        fewer = without_row(book, table, row)
        return self._do(("go", table, row), fewer, _without(pins, (table, row)), kept)

    def pin(self, table, row):
        """Pin a row."""
        book, pins, kept, _ = self._state
        without_row(book, table, row)
        if (table, row) in pins:
            raise RowTaken("the row is pinned")
        return self._do(("pin", table, row), book, tuple(sorted(pins + ((table, row),))), kept)

    def unpin(self, table, row):
        """Take the pin off a row."""
        book, pins, kept, _ = self._state
        without_row(book, table, row)
        if (table, row) not in pins:
            raise NoRow("the row is not pinned")
        return self._do(("unpin", table, row), book, _without(pins, (table, row)), kept)

    def keep(self, name, question, prices):
        """Keep a question with prices under a name."""
        book, pins, kept, told = self._state
        if not is_name(name):
            raise NoQuestion("this is no name for a question")
        if name in told:
            raise NameTaken("a question has this name")
        need_closed(book, question)
        need_prices(question, prices)
        if len(kept) >= MOST_QUESTIONS:
            raise TooMany(MOST_QUESTIONS)
        return self._do(("keep", name), book, pins, kept + ((name, question, dict(prices)),))

    def forget(self, name):
        """Forget a question."""
        book, pins, kept, _ = self._state
        self._need_name(name)
        return self._do(("forget", name), book, pins, tuple([each for each in kept if each[0] != name]))

    def told(self, name):
        """Return what least_cut returns for a question."""
        self._need_name(name)
        return self._state[3][name]

    def blame_of(self, name, pair):
        """Return a question's blame of a row, whatever is pinned."""
        book, question, prices, _ = self.asked(name)
        return blame(book, question, prices, pair)

    def asked(self, name):
        """Return (book, question, prices, pinned rows of the question) as they are for the question of a name."""
        self._need_name(name)
        book, pins, kept, _ = self._state
        _, question, prices = [each for each in kept if each[0] == name][0]
        return dict(book), question, dict(prices), pins_of(pins, prices)

    def book_now(self):
        """Return the book, its tables in the order in which they were set."""
        return dict(self._state[0])

    def pinned(self):
        """Return the ascending list of all pinned rows."""
        return list(self._state[1])

    def questions(self):
        """Return the list of (name, question, prices), in the order they came."""
        return [(name, question, dict(prices)) for name, question, prices in self._state[2]]

    def notes(self):
        """Return the list of the deeds, in order."""
        return list(self._deeds)

    def back(self, number):
        """Go back to behind the first so many deeds."""
        need_mark(number, self._deeds)
        if number < len(self._deeds):
            self._state = self._earlier[number]
            self._deeds = self._deeds[:number]
            self._earlier = self._earlier[:number]

    def _need_name(self, name):
        if not isinstance(name, str) or name not in self._state[3]:
            raise NoQuestion("no question has this name")

    def _do(self, deed, book, pins, kept):
        """Do a deed that leads to these things; return the names of the questions that turned."""
        told = _told_of(self._state, book, pins, kept)
        before = self._state[3]
        self._deeds.append(deed)
        self._earlier.append(self._state)
        self._state = (book, pins, kept, told)
        gone = [name for name in before if name not in told]
        return gone + [name for name in told if name not in before or _gist(before[name]) != _gist(told[name])]


def need_mark(number, deeds):
    """Raise NoMark unless any object number is an integer from 0 to the number of some deeds."""
    if not is_integer(number) or not 0 <= number <= len(deeds):
        raise NoMark("there are not so many deeds")


def pins_of(pins, prices):
    """Return the tuple of the pinned rows that are loose by some prices, or None if there are none."""
    mine = tuple([pair for pair in pins if prices.get(pair[0]) is not None])
    return mine if mine else None


def _told_of(state, book, pins, kept):
    """Return the dict of what is told of kept questions; what stays as in an earlier state is taken from there."""
    told = {}
    for name, question, prices in kept:
        before = state[3].get(name)
        if before is not None and _stays(state, book, pins, question, prices):
            told[name] = before
        else:
            told[name] = least_cut(book, question, prices, pins_of(pins, prices))
    return told


def _stays(state, book, pins, question, prices):
    """Return whether the rows and pins of a question that was kept are as they were."""
    same = all([state[0][table] == book[table] for table, _ in question[1]])
    return same and pins_of(state[1], prices) == pins_of(pins, prices)


def _without(pins, pair):
    return tuple([other for other in pins if other != pair])


def _gist(told):
    """Return the least price and the told cut, or None where there is none."""
    return (told[1], told[2]) if told[0] == "cut" else None
