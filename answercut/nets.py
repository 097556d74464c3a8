"""Least cuts of closed questions, and the judges of cuts."""

from answercut.amounts import are_amounts, are_loose_rows, fit, joined_amounts, open_rows, price_of, total, up_to
from answercut.books import is_integer, without_rows
from answercut.errors import NoRow
from answercut.flows import nearest_cut
from answercut.lines import loose_tables, need_line, ruling
from answercut.questions import holds, is_way, need_closed, need_prices, part_of, pieces, rows_of, ways


def least_cut(book, question, prices, pinned):
    """Return ("cut", price, rows, amounts) with the told cut, or ("stands", way) if there is no cut."""
    need_pinned(book, question, prices, pinned)
    lines = piece_lines(question, prices, pinned)
    parts = [part_of(question, piece) for piece in pieces(question)]
    found = [ways(book, part) for part in parts]
    told = [cut_of_ways(part, prices, pinned, line, made) for part, line, made in zip(parts, lines, found)]
    cuts = [each for each in told if each[0] == "cut"]
    if not cuts:
        joined = joined_amounts(question, parts, [[(each[1], 1)] for each in told])
        return "stands", joined[0][0]
    price = min([each[1] for each in cuts])
    rows = [each[2] for each in cuts if each[1] == price][0]
    if price == 0:
        return "cut", 0, rows, ()
    carried = [[(each[1], price)] if each[0] == "stands" else up_to(each[3], price) for each in told]
    return "cut", price, rows, joined_amounts(question, parts, carried)


def need_pinned(book, question, prices, pinned):
    """Raise NoQuestion, NoPrice or NoRow unless any objects are a closed question, its prices and pinned rows."""
    need_closed(book, question)
    need_prices(question, prices)
    if pinned is not None and not are_loose_rows(book, prices, pinned):
        raise NoRow("the pinned rows are no ascending tuple of different loose rows")


def piece_lines(question, prices, pinned):
    """Return the list of the told lines of the pieces, or raise NoLine for the first one without a line."""
    return [need_line(question, line_tables(question, prices, pinned, piece)) for piece in pieces(question)]


def line_tables(question, prices, pinned, piece):
    """Return the tuple of the tables of a piece that are to stand in its line."""
    tables = ruling(question, prices) if pinned is None else loose_tables(question, prices)
    return tuple([table for table in tables if table in piece])


def cut_of_ways(part, prices, pinned, line, found):
    """Return ("cut", price, rows, amounts) or ("stands", way) for a piece of which these are all ways."""
    held = as_keys(pinned)
    for way in found:
        if not open_rows(part, prices, way, held):
            return "stands", way
    ways_by_path, bounds = {}, {}
    for way in found:
        made = dict(rows_of(part, way))
        path = tuple([(table, made[table]) for table in line])
        ways_by_path.setdefault(path, way)
        for pair in path:
            bounds[pair] = None if held is not None and pair in held else prices[pair[0]]
    rows, flow = nearest_cut(list(ways_by_path), bounds)
    # A table of a line parts those on its sides, so that of two ways with one of its rows one can go on as the other.
    # Therefore each path of the net is one of a way.
    amounts = sorted([(ways_by_path[path], amount) for path, amount in flow])
    return "cut", price_of(prices, rows), tuple(sorted(rows)), tuple(amounts)


def as_keys(pairs):
    """Return a dict with the pairs of a tuple as keys, None for None."""
    return None if pairs is None else {pair: True for pair in pairs}


def shows_cut(book, question, prices, pinned, thing):
    """Return whether any object is an ascending tuple of loose rows that are a cut."""
    need_pinned(book, question, prices, pinned)
    return _is_cut(book, question, prices, pinned, thing)


def _is_cut(book, question, prices, pinned, thing):
    if not are_loose_rows(book, prices, thing):
        return False
    if pinned is not None and any([pair in pinned for pair in thing]):
        return False
    return not holds(without_rows(book, thing), question)


def shows_least(book, question, prices, pinned, thing):
    """Return whether any object is what least_cut may return: a cut with amounts, or a way that stands."""
    need_pinned(book, question, prices, pinned)
    if not isinstance(thing, tuple):
        return False
    if len(thing) == 2 and thing[0] == "stands":
        return is_way(book, question, thing[1]) and not open_rows(question, prices, thing[1], as_keys(pinned))
    if len(thing) != 4 or thing[0] != "cut" or not is_integer(thing[1]):
        return False
    _, price, rows, amounts = thing
    if not _is_cut(book, question, prices, pinned, rows) or price != price_of(prices, rows):
        return False
    if not are_amounts(book, question, amounts) or total(amounts) != price:
        return False
    return fit(question, prices, amounts, as_keys(pinned))
