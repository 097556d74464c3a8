"""The blame of loose rows, and its judge."""

from answercut.amounts import MOST_AMOUNT, are_amounts, are_loose_rows, fit, is_loose_row, open_rows, price_of, total
from answercut.books import is_integer, without_row
from answercut.errors import NoRow, TooMany
from answercut.lines import loose_tables, need_line
from answercut.nets import Course, as_keys, is_standing
from answercut.questions import holds, is_way, need_closed, need_prices, part_of, pieces, rows_of, ways

MOST_SETS = 60


def blame(book, question, prices, pair):
    """Return ("blame", price, rows, way, papers) of a loose row, or ("none", papers) if it has none."""
    _need_pair(book, question, prices, pair)
    part = _part_with(question, pair[0])
    line = need_line(part, loose_tables(part, prices))
    sets = _sets(book, question, prices, pair)
    if not sets:
        return "none", ()
    # The row itself is in each set, too, but in no way that is left.
    left = [way for way in ways(book, part) if pair not in rows_of(part, way)]
    # Each way that is left has a row of the pair's table that is another one, thus in no set: so there are cuts.
    cuts = [Course(part, prices, rows, line, left).cut(prices, {}) for rows in sets]
    price = min([cut[1] for cut in cuts])
    least = [at for at, cut in enumerate(cuts) if cut[1] == price][0]
    papers = tuple([(rows, cut[3]) for rows, cut in zip(sets, cuts)])
    way = sets[list(sets)[least]]
    return "blame", price, cuts[least][2], way, papers


def _need_pair(book, question, prices, pair):
    need_closed(book, question)
    need_prices(question, prices)
    if not is_loose_row(book, prices, pair):
        raise NoRow("this is no loose row of a table of the question")


def _part_with(question, table):
    """Return the piece that has a table, as a question."""
    return part_of(question, [piece for piece in pieces(question) if table in piece][0])


def _sets(book, question, prices, pair):
    """Return an ascending dict from the sets of the loose rows of ways through a row to such a way of its piece."""
    if not holds(book, question):
        return {}
    part = _part_with(question, pair[0])
    found = {}
    for way in ways(book, part):
        rows = tuple(sorted(open_rows(part, prices, way, None)))
        if pair in rows:
            found.setdefault(rows, way)
    if len(found) > MOST_SETS:
        raise TooMany(MOST_SETS)
    return {rows: found[rows] for rows in sorted(found)}


def shows_blame(book, question, prices, pair, thing):
    """Return whether any object is what blame may return."""
    _need_pair(book, question, prices, pair)
    sets = _sets(book, question, prices, pair)
    part = _part_with(question, pair[0])
    fewer = without_row(book, pair[0], pair[1])
    if not isinstance(thing, tuple):
        return False
    if len(thing) == 2 and thing[0] == "none":
        if not are_papers(book, prices, sets, thing[1]):
            return False
        return all([is_standing(fewer, part, prices, rows, way) for rows, way in thing[1]])
    if len(thing) != 5 or thing[0] != "blame" or not sets or not are_papers(book, prices, sets, thing[4]):
        return False
    _, price, rows, way, papers = thing
    if not are_loose_rows(book, prices, rows) or not is_integer(price) or price != price_of(prices, rows):
        return False
    if not _is_decisive(book, part, prices, pair, rows, way):
        return False
    return all([cost_enough(fewer, part, prices, kept, price, amounts) for kept, amounts in papers])


def are_papers(book, prices, sets, thing):
    """Return whether any object is a tuple of pairs of a set and another thing, with each set once, ascending."""
    if not isinstance(thing, tuple) or len(thing) != len(sets):
        return False
    if not all([isinstance(paper, tuple) and len(paper) == 2 for paper in thing]):
        return False
    # True and False equal integers of rows, so it is not enough that a set equals the one that is due.
    return all([
        are_loose_rows(book, prices, paper[0]) and paper[0] == rows for paper, rows in zip(thing, sets)
    ])


def _is_decisive(book, part, prices, pair, rows, way):
    """Return whether without some loose rows any object is a way through a row, and all ways go through it."""
    if not is_way(book, part, way):
        return False
    lost = as_keys(rows)
    left = [made for made in _made(book, part) if not any([other in lost for other in made])]
    return rows_of(part, way) in left and all([pair in other for other in left])


def _made(book, part):
    return [rows_of(part, way) for way in ways(book, part)]


def cost_enough(book, question, prices, rows, price, amounts):
    """Return whether any object is amounts which show that without the rows of a set no cut is cheaper than a price.

    No amount has more than forty digits.
    """
    if not are_amounts(book, question, amounts) or total(amounts) < price:
        return False
    if not all([amount <= MOST_AMOUNT for _, amount in amounts]):
        return False
    return fit(question, prices, amounts, as_keys(rows), {})
