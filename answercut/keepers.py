"""Keepers of questions, moving prices and certificates while rows come and go."""

from answercut.books import is_integer
from answercut.errors import AnswerError, NameTaken, NoMark, NoPrice, NoQuestion, TooMany
from answercut.roofs import need_moving
from answercut.views import View
from answercut.watches import Watch, need_mark

MOST_HELD = 30


class Keeper:
    """A watch, moving prices for some of its questions, and certificates that are held.

    A state has the number of the watch's deeds, the moving prices by the names of questions, the held certificates
    (number, name, what, certificate), the views of the questions by their names, and by the numbers of the
    certificates whether they are right. No state is changed once it is there.
    """

    def __init__(self):
        self._watch = Watch()
        self._state = (0, {}, (), {}, {})
        self._deeds = []
        self._earlier = []

    def set_table(self, name, width):
        """Set a table without rows."""
        self._watch.set_table(name, width)
        return self._do_watched(("table", name, width))

    def come(self, table, row):
        """Let a row come."""
        self._watch.come(table, row)
        return self._do_watched(("come", table, row))

    def go(self, table, row):
        """Let a row go, with its pin."""
        self._watch.go(table, row)
        return self._do_watched(("go", table, row))

    def pin(self, table, row):
        """Pin a row."""
        self._watch.pin(table, row)
        return self._do_watched(("pin", table, row))

    def unpin(self, table, row):
        """Take the pin off a row."""
        self._watch.unpin(table, row)
        return self._do_watched(("unpin", table, row))

    def keep(self, name, question, prices):
        """Keep a question with prices under a name."""
        self._watch.keep(name, question, prices)
        return self._do_watched(("keep", name))

    def forget(self, name):
        """Forget a question, with its moving prices and certificates."""
        self._watch.forget(name)
        _, moving, held, _, _ = self._state
        left = {other: pairs for other, pairs in moving.items() if other != name}
        return self._do(("forget", name), left, tuple([each for each in held if each[1] != name]))

    def move(self, name, moving):
        """Give a question moving prices."""
        view = self._view(name)
        if view.moving is not None:
            raise NameTaken("the question has moving prices")
        need_moving(view.question, moving)
        return self._do(("move", name), {**self._state[1], name: dict(moving)}, self._state[2])

    def still(self, name):
        """Take a question's moving prices away."""
        self._need_moving(name)
        left = {other: pairs for other, pairs in self._state[1].items() if other != name}
        return self._do(("still", name), left, self._state[2])

    def hold(self, name, what):
        """Hold a certificate of what is told of a question."""
        view = self._view(name)
        ordered = what == "orders"
        certificate = None if ordered else view.certificate(what)
        if len(self._state[2]) >= MOST_HELD:
            raise TooMany(MOST_HELD)
        if ordered:
            certificate = view.order_certificates()
        number = len([deed for deed in self._deeds if deed[0] == "hold"])
        held = self._state[2] + ((number, name, what, certificate),)
        return self._do(("hold", name, what), self._state[1], held)

    def drop(self, number):
        """Hold a certificate no longer."""
        self.held(number)
        left = tuple([each for each in self._state[2] if each[0] != number])
        return self._do(("drop", number), self._state[1], left)

    def told(self, name):
        """Return what least_cut returns for a question."""
        return self._view(name).told

    def orders_of(self, name):
        """Return the list of a question's orders."""
        return self._view(name).new_orders()

    def roof_of(self, name):
        """Return what roof returns for a question with moving prices."""
        return self._need_moving(name).roof

    def certificates(self):
        """Return the ascending list of (number, name, what, certificate, whether it is right)."""
        _, _, held, _, right = self._state
        return [each + (right[each[0]],) for each in held]

    def held(self, number):
        """Return (name, what, certificate) of the certificate of a number that is held."""
        found = [each for each in self._state[2] if is_integer(number) and each[0] == number]
        if not found:
            raise NoMark("no certificate that is held has this number")
        return found[0][1:]

    def asked(self, name):
        """Return (book, question, prices, pinned, moving prices or None, rows pinned by them) of a question."""
        book, question, prices, pinned = self._watch.asked(name)
        view = self._view(name)
        return book, question, prices, pinned, _copied(view.moving), view.still

    def book_now(self):
        """Return the book, its tables in the order in which they were set."""
        return self._watch.book_now()

    def pinned(self):
        """Return the ascending list of all pinned rows."""
        return self._watch.pinned()

    def questions(self):
        """Return the list of (name, question, prices, moving prices or None), in the order they came."""
        return [each + (_copied(self._state[1].get(each[0])),) for each in self._watch.questions()]

    def notes(self):
        """Return the list of the deeds, in order."""
        return list(self._deeds)

    def back(self, number):
        """Go back to behind the first so many deeds."""
        need_mark(number, self._deeds)
        if number < len(self._deeds):
            self._state = self._earlier[number]
            self._deeds = self._deeds[:number]
            self._earlier = self._earlier[:number]
            self._watch.back(self._state[0])

    def _view(self, name):
        views = self._state[3]
        if not isinstance(name, str) or name not in views:
            raise NoQuestion("no question has this name")
        return views[name]

    def _need_moving(self, name):
        """Return the view of a question with moving prices."""
        view = self._view(name)
        if view.moving is None:
            raise NoPrice("the question has no moving prices")
        return view

    def _do_watched(self, deed):
        """Do a deed that the watch has done."""
        return self._do(deed, self._state[1], self._state[2])

    def _do(self, deed, moving, held):
        """Do a deed that leads to these moving prices and certificates; return what turned."""
        mark, _, _, before, was_right = self._state
        try:
            views = self._views(moving)
        except AnswerError:
            self._watch.back(mark)
            raise
        right = {}
        # Views have no equality of their own: a view that stays is the same object.
        for number, name, what, certificate in held:
            known = number in was_right and views[name] == before.get(name)
            right[number] = was_right[number] if known else views[name].takes(what, certificate)
        self._deeds.append(deed)
        self._earlier.append(self._state)
        self._state = (len(self._watch.notes()), moving, held, views, right)
        judged = [(number, right[number]) for number in right if was_right.get(number, right[number]) != right[number]]
        return _turned(before, views), judged

    def _views(self, moving):
        """Return the dict of the views of the questions; those that stay are taken from the state."""
        book, pins, before = self._watch.book_now(), self._watch.pinned(), self._state[3]
        views = {}
        for name, question, prices in self._watch.questions():
            pairs = moving.get(name)
            if name in before and before[name].stays(book, pins, pairs):
                views[name] = before[name]
            else:
                views[name] = View(book, pins, question, prices, pairs, self._watch.told(name))
        return views


def _copied(moving):
    return None if moving is None else dict(moving)


def _turned(before, views):
    """Return the list of (name, words) of the questions that turned, forgotten ones first."""
    names = [name for name in before if name not in views] + list(views)
    told = [(name, _words(before.get(name), views.get(name))) for name in names]
    return [(name, words) for name, words in told if words]


def _words(one, other):
    """Return the tuple of words for what turned from one view of a question to another one; None where it is not."""
    come = one is None or other is None
    words = []
    if come or one.gist() != other.gist():
        words.append("cut")
    if come or one.orders != other.orders:
        words.append("orders")
    if _stretches(one) != _stretches(other):
        words.append("roof")
    return tuple(words)


def _stretches(view):
    return None if view is None else view.stretches()
