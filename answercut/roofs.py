"""Roofs: the least prices of cuts while prices move, and their judge."""

from answercut.amounts import are_amounts, fit, total
from answercut.books import is_integer
from answercut.errors import NoPrice
from answercut.lines import loose_tables, ruling_by
from answercut.nets import as_keys, courses_of, cut_of_courses, is_cut, is_standing, lines_of, need_loose
from answercut.questions import need_closed, need_worths
from answercut.shares import lowest

MOST_MOVING = 10 ** 13
# Where a stretch begins two cuts cost the same: it is a fraction of two differences of their sums, of which each is at
# most 360 * 10 ** 13, for all rows of six tables. So all beginnings are less than FINE, and more than 1 / FINE apart.
FINE = 10 ** 32


def need_moving(question, moving):
    """Raise NoPrice unless any object moving is a dict of moving prices of the question."""
    need_worths(question, moving, _is_moving)


def _is_moving(thing):
    if not isinstance(thing, tuple) or len(thing) != 2:
        return False
    return all([is_integer(part) and 0 <= part <= MOST_MOVING for part in thing]) and thing != (0, 0)


def roof(book, question, moving, pinned):
    """Return ("roof", stretches, papers), or ("stands", way) if there is no cut."""
    need_roofed(book, question, moving, pinned)
    tables = ruling_by(question, moving) if pinned is None else loose_tables(question, moving)
    courses = courses_of(book, question, moving, pinned, lines_of(question, tables))
    last = cut_of_courses(question, courses, _prices_at(moving, (FINE, 1)), {})
    if last[0] == "stands":
        return last
    end = _sums(moving, last[2])
    stretches, papers = [], []
    start = (0, 1)
    while start is not None:
        told = cut_of_courses(question, courses, _prices_at(moving, _behind(start)), {})
        sums = _sums(moving, told[2])
        stretches.append((start, sums[0], sums[1], told[2]))
        papers.append(cut_of_courses(question, courses, _prices_at(moving, start), {})[3])
        start = _end_of(question, courses, moving, sums, end)
    papers.append(cut_of_courses(question, courses, _prices_at(moving, (1, 0)), {})[3])
    return "roof", tuple(stretches), tuple(papers)


def need_roofed(book, question, moving, pinned):
    """Raise NoQuestion, NoPrice or NoRow unless any objects are a closed question, moving prices and pinned rows."""
    need_closed(book, question)
    need_moving(question, moving)
    # Of moving prices, too, those of firm tables are None.
    need_loose(book, moving, pinned)


def _prices_at(moving, t):
    """Return the prices at a fraction over / under, times its under; for (1, 0) those that are reached at the end."""
    over, under = t
    return {
        table: None if pair is None else pair[0] * under + pair[1] * over
        for table, pair in moving.items()
    }


def _behind(t):
    """Return a fraction behind another one, and ahead of the next beginning of a stretch."""
    over, under = t
    return over * FINE + under, under * FINE


def _sums(moving, rows):
    """Return the sums of a and b of some rows."""
    return sum([moving[table][0] for table, _ in rows]), sum([moving[table][1] for table, _ in rows])


def _end_of(question, courses, moving, sums, end):
    """Return the fraction where the stretch with some sums ends, None if it has those of the last one."""
    if sums == end:
        return None
    other = end
    # Where it costs as much as another cut it ends, unless there is a cheaper cut, which is to be compared then.
    while True:
        t = lowest(other[0] - sums[0], sums[1] - other[1])
        told = cut_of_courses(question, courses, _prices_at(moving, t), {})
        if told[1] == sums[0] * t[1] + sums[1] * t[0]:
            return t
        other = _sums(moving, told[2])


def shows_roof(book, question, moving, pinned, thing):
    """Return whether any object is a roof with its papers, or a way that stands."""
    need_roofed(book, question, moving, pinned)
    if not isinstance(thing, tuple):
        return False
    if len(thing) == 2 and thing[0] == "stands":
        return is_standing(book, question, moving, pinned, thing[1])
    if len(thing) != 3 or thing[0] != "roof" or not _are_beginnings(thing[1]):
        return False
    _, stretches, papers = thing
    cuts = [is_cut(book, question, moving, pinned, rows) for _, _, _, rows in stretches]
    if not all(cuts) or not _are_sums(moving, stretches):
        return False
    if not isinstance(papers, tuple) or len(papers) != len(stretches) + 1:
        return False
    fractions = [stretch[0] for stretch in stretches] + [(1, 0)]
    sums = [(a, b) for _, a, b, _ in stretches] + [stretches[-1][1:3]]
    held = as_keys(pinned)
    return all([
        are_amounts(book, question, amounts) and total(amounts) == a * under + b * over
        and fit(question, _prices_at(moving, (over, under)), amounts, held, {})
        for (over, under), (a, b), amounts in zip(fractions, sums, papers)
    ])


def _are_beginnings(thing):
    """Return whether any object is a tuple of tuples of four with fractions that rise from (0, 1)."""
    if not isinstance(thing, tuple) or not all([isinstance(part, tuple) and len(part) == 4 for part in thing]):
        return False
    fractions = [part[0] for part in thing]
    if not all([_is_fraction(t) and lowest(t[0], t[1]) == t for t in fractions]) or fractions[:1] != [(0, 1)]:
        return False
    return all([_is_ahead(one, other) for one, other in zip(fractions, fractions[1:])])


def _is_fraction(thing):
    if not isinstance(thing, tuple) or len(thing) != 2 or not is_integer(thing[0]) or not is_integer(thing[1]):
        return False
    return thing[0] >= 0 and thing[1] >= 1


def _is_ahead(one, other):
    """Return whether a fraction is less than another one."""
    return one[0] * other[1] < other[0] * one[1]


def _are_sums(moving, stretches):
    """Return whether the sums of stretches are those of their rows, and as their beginnings ask."""
    for _, a, b, rows in stretches:
        if not is_integer(a) or not is_integer(b) or (a, b) != _sums(moving, rows):
            return False
    for (_, a, b, _), ((over, under), more, less, _) in zip(stretches, stretches[1:]):
        if b <= less or a * under + b * over != more * under + less * over:
            return False
    return True


class Roof:
    """A roof to be read: stretches (from, A, B, rows)."""

    def __init__(self, stretches):
        self.stretches = stretches

    def __eq__(self, other):
        return isinstance(other, Roof) and self.stretches == other.stretches

    def __len__(self):
        return len(self.stretches)

    def price_at(self, t):
        """Return the least price at a fraction, as a fraction in lowest terms."""
        _, a, b, _ = self._stretch_at(t)
        over, under = t
        return lowest(a * under + b * over, under)

    def cut_at(self, t):
        """Return the rows of the last stretch that begins at a fraction or ahead of it."""
        return self._stretch_at(t)[3]

    def front(self):
        """Return the list of the pairs (A, B) of the stretches."""
        return [(a, b) for _, a, b, _ in self.stretches]

    def _stretch_at(self, t):
        if not _is_fraction(t):
            raise NoPrice("this is no fraction from 0 on")
        return [stretch for stretch in self.stretches if not _is_ahead(t, stretch[0])][-1]
