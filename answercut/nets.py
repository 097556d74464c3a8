"""Least cuts of closed questions, and the judges of cuts."""

from answercut.amounts import are_amounts, are_loose_rows, fit, joined_amounts, open_rows, price_of, total, up_to
from answercut.books import is_integer, without_rows
from answercut.errors import NoRow
from answercut.flows import nearest_cut
from answercut.lines import loose_tables, need_line, ruling
from answercut.questions import holds, is_way, need_closed, need_prices, part_of, pieces, rows_of, ways


class Course:
    """The ways of a piece, laid along a line of its tables: paths of rows.

    A table of a line parts those on its sides, so that of two ways with one of its rows one can go on as the other.
    Therefore a path that is mixed from those of ways is again one of a way.
    """

    def __init__(self, part, prices, pinned, line, found):
        held = as_keys(pinned)
        standing = [way for way in found if not open_rows(part, prices, way, held)]
        self.part = part
        self.standing = standing[0] if standing else None
        self.ways = {}
        self.kept = {}
        for way in found:
            made = dict(rows_of(part, way))
            path = tuple([(table, made[table]) for table in line])
            self.ways.setdefault(path, way)
            for pair in path:
                self.kept[pair] = held is not None and pair in held

    def bounds(self, prices, changes):
        """Return a dict from the rows of the paths to what each may carry, None for pinned ones.

        Changes are a dict from pairs to how much more than their prices they carry.
        """
        return {
            pair: None if kept else prices[pair[0]] + changes.get(pair, 0)
            for pair, kept in self.kept.items()
        }

    def cut(self, prices, changes):
        """Return ("cut", price, rows, amounts) with the nearest cut of the piece, or ("stands", way)."""
        if self.standing is not None:
            return "stands", self.standing
        bounds = self.bounds(prices, changes)
        rows, flow = nearest_cut(list(self.ways), bounds)
        amounts = sorted([(self.ways[path], amount) for path, amount in flow])
        return "cut", sum([bounds[pair] for pair in rows]), tuple(sorted(rows)), tuple(amounts)


def least_cut(book, question, prices, pinned):
    """Return ("cut", price, rows, amounts) with the told cut, or ("stands", way) if there is no cut."""
    need_pinned(book, question, prices, pinned)
    courses = courses_of(book, question, prices, pinned, piece_lines(question, prices, pinned))
    return cut_of_courses(question, courses, prices, {})


def courses_of(book, question, prices, pinned, lines):
    """Return the list of the courses of the pieces, whose lines are these."""
    parts = [part_of(question, piece) for piece in pieces(question)]
    return [Course(part, prices, pinned, line, ways(book, part)) for part, line in zip(parts, lines)]


def cut_of_courses(question, courses, prices, changes):
    """Return what least_cut returns; changes are as Course tells."""
    parts = [course.part for course in courses]
    told = [course.cut(prices, changes) for course in courses]
    cuts = [each for each in told if each[0] == "cut"]
    if not cuts:
        joined = joined_amounts(question, parts, [[(each[1], 1)] for each in told])
        return "stands", joined[0][0]
    price = min([each[1] for each in cuts])
    rows = [each[2] for each in cuts if each[1] == price][0]
    if price == 0:
        return "cut", 0, rows, ()
    carried = [[(each[1], price)] if each[0] == "stands" else up_to(each[3], price) for each in told]
    return "cut", price, rows, joined_amounts(question, parts, carried)


def need_pinned(book, question, prices, pinned):
    """Raise NoQuestion, NoPrice or NoRow unless any objects are a closed question, its prices and pinned rows."""
    need_closed(book, question)
    need_prices(question, prices)
    need_loose(book, prices, pinned)


def need_loose(book, prices, pinned):
    """Raise NoRow if any object pinned is neither None nor an ascending tuple of different loose rows."""
    if pinned is not None and not are_loose_rows(book, prices, pinned):
        raise NoRow("the pinned rows are no ascending tuple of different loose rows")


def piece_lines(question, prices, pinned):
    """Return the list of the told lines of the pieces, or raise NoLine for the first one without a line."""
    return lines_of(question, line_tables(question, prices, pinned))


def line_tables(question, prices, pinned):
    """Return the tuple of the tables that are to stand in the lines of the pieces."""
    return ruling(question, prices) if pinned is None else loose_tables(question, prices)


def lines_of(question, tables):
    """Return the list of the told lines of some tables, piece by piece, or raise NoLine."""
    return [need_line(question, tables_in(tables, piece)) for piece in pieces(question)]


def tables_in(tables, piece):
    """Return the tuple of those of some tables that are in a piece."""
    return tuple([table for table in tables if table in piece])


def as_keys(pairs):
    """Return a dict with the pairs of a tuple as keys, None for None."""
    return None if pairs is None else {pair: True for pair in pairs}


def shows_cut(book, question, prices, pinned, thing):
    """Return whether any object is an ascending tuple of loose rows that are a cut."""
    need_pinned(book, question, prices, pinned)
    return is_cut(book, question, prices, pinned, thing)


def is_cut(book, question, prices, pinned, thing):
    """Return whether any object is an ascending tuple of loose rows that are a cut; the rest is right."""
    if not are_loose_rows(book, prices, thing):
        return False
    if pinned is not None and any([pair in pinned for pair in thing]):
        return False
    return not holds(without_rows(book, thing), question)


def shows_least(book, question, prices, pinned, thing):
    """Return whether any object is what least_cut may return: a cut with amounts, or a way that stands."""
    need_pinned(book, question, prices, pinned)
    if not isinstance(thing, tuple):
        return False
    if len(thing) == 2 and thing[0] == "stands":
        return is_standing(book, question, prices, pinned, thing[1])
    if len(thing) != 4 or thing[0] != "cut" or not is_integer(thing[1]):
        return False
    _, price, rows, amounts = thing
    if not is_cut(book, question, prices, pinned, rows) or price != price_of(prices, rows):
        return False
    if not are_amounts(book, question, amounts) or total(amounts) != price:
        return False
    return fit(question, prices, amounts, as_keys(pinned), {})


def is_standing(book, question, prices, pinned, thing):
    """Return whether any object is a way of firm and pinned rows alone; the rest is right."""
    return is_way(book, question, thing) and not open_rows(question, prices, thing, as_keys(pinned))
