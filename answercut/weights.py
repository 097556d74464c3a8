"""How much single rows weigh in the chances of nested questions."""

from answercut.books import is_row, rises
from answercut.errors import NoRow
from answercut.questions import answers, put_answer
from answercut.shares import chance, counts_of, lowest, need_few

THERE = (1, 1)
LOST = (0, 1)


def growth(book, question, chances, pair):
    """Return the growth of a loose row: the chance with it there less that with it lost."""
    _need_one_of(need_few(book, question, tuple(chances)), pair)
    return _growth(book, question, chances, pair)


def growths(book, question, chances):
    """Return the tuple of (table, row, growth) of all loose rows, ascending."""
    rows = need_few(book, question, tuple(chances))
    return tuple([(table, row, _growth(book, question, chances, (table, row))) for table, row in rows])


def _growth(book, question, chances, pair):
    over, under = _chance_seen(book, question, chances, (pair,), ())
    less, whole = _chance_seen(book, question, chances, (), (pair,))
    return lowest(over * whole - less * under, under * whole)


def swing(book, question, loose, pair):
    """Return the swing of a loose row: the part of the sets of all other ones behind which it decides."""
    rows = need_few(book, question, loose)
    _need_one_of(rows, pair)
    every, fewer = counts_of(book, question, rows, None), counts_of(book, question, rows, pair)
    others = len(rows) - 1
    deciding = sum([every[k + 1] - fewer[k + 1] - fewer[k] for k in range(others + 1)])
    return lowest(deciding, 1 << others)


def seen(book, question, chances, there, lost):
    """Return the chance that the question holds when some loose rows are known to be there, some to be lost."""
    rows = need_few(book, question, tuple(chances))
    if not _are_some_of(rows, there) or not _are_some_of(rows, lost):
        raise NoRow("these are no ascending tuples of different loose rows")
    if any([pair in lost for pair in there]):
        raise NoRow("a row is not both there and lost")
    return _chance_seen(book, question, chances, there, lost)


def chance_given(book, question, chances, pair, holding):
    """Return the chance that a loose row is there, given that the question holds or does not, None if it can't be."""
    _need_one_of(need_few(book, question, tuple(chances)), pair)
    table, row = pair
    over, under = chances[table][row]
    both = _part_of(_chance_seen(book, question, chances, (pair,), ()), holding)
    given = _part_of(chance(book, question, chances), holding)
    if given[0] == 0:
        return None
    return lowest(over * both[0] * given[1], under * both[1] * given[0])


def _part_of(held, holding):
    """Return the chance that a question holds, or that it does not, by the chance that it holds."""
    over, under = held
    return (over, under) if holding else (under - over, under)


def answer_chances(book, question, chances):
    """Return the ascending list of (answer, chance) of the answers in the book with all rows."""
    return [(answer, chance(book, put_answer(question, answer), chances)) for answer in answers(book, question)]


def _chance_seen(book, question, chances, there, lost):
    """Return the chance with the chances 1 and 0 for some rows."""
    known = {pair: THERE for pair in there}
    known.update({pair: LOST for pair in lost})
    changed = {
        table: {row: known.get((table, row), fraction) for row, fraction in rows.items()}
        for table, rows in chances.items()
    }
    return chance(book, question, changed)


def _need_one_of(rows, thing):
    if not _is_one_of(rows, thing):
        raise NoRow("this is no loose row")


def _is_one_of(rows, thing):
    # True and False equal integers of rows, so it is not enough that a loose row equals the thing.
    return isinstance(thing, tuple) and len(thing) == 2 and is_row(thing[1]) and thing in rows


def _are_some_of(rows, thing):
    return isinstance(thing, tuple) and all([_is_one_of(rows, pair) for pair in thing]) and rises(thing)
