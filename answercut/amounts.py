"""Amounts on ways, and the loose rows that bound them."""

from answercut.books import is_integer, is_row, rises
from answercut.questions import is_way, names_of, rows_of

MOST_AMOUNT = 10 ** 40 - 1


def is_loose_row(book, prices, thing):
    """Return whether any object is a pair (table, row): a loose row in the book."""
    if not isinstance(thing, tuple) or len(thing) != 2:
        return False
    table, row = thing
    if not isinstance(table, str) or prices.get(table) is None:
        return False
    # True and False equal integers of rows, so a row is asked to be one ahead of the table.
    return is_row(row) and row in book[table][1]


def are_loose_rows(book, prices, thing):
    """Return whether any object is an ascending tuple of different loose rows."""
    return isinstance(thing, tuple) and all([is_loose_row(book, prices, pair) for pair in thing]) and rises(thing)


def price_of(prices, pairs):
    """Return what loose rows cost together."""
    return sum([prices[table] for table, _ in pairs])


def open_rows(question, prices, way, pinned):
    """Return the list of the loose rows of a way that are not among the pinned ones, a dict or None."""
    rows = [pair for pair in rows_of(question, way) if prices[pair[0]] is not None]
    return [pair for pair in rows if pinned is None or pair not in pinned]


def are_amounts(book, question, thing):
    """Return whether any object is an ascending tuple of pairs of a way and an integer from 1 on, each way once."""
    if not isinstance(thing, tuple) or not all([_is_amount(book, question, pair) for pair in thing]):
        return False
    return rises([way for way, _ in thing])


def _is_amount(book, question, thing):
    if not isinstance(thing, tuple) or len(thing) != 2:
        return False
    way, amount = thing
    return is_integer(amount) and amount >= 1 and is_way(book, question, way)


def total(amounts):
    """Return the sum of the amounts."""
    return sum([amount for _, amount in amounts])


def fit(question, prices, amounts, pinned, changes):
    """Return whether the ways of each loose row that is not pinned carry at most its price together.

    Changes are a dict from pairs to how much more than their prices they may carry.
    """
    loads = {}
    for way, amount in amounts:
        for pair in open_rows(question, prices, way, pinned):
            loads[pair] = loads.get(pair, 0) + amount
    return all([load <= prices[pair[0]] + changes.get(pair, 0) for pair, load in loads.items()])


def joined_amounts(question, parts, carried):
    """Return amounts on ways of a question from some on ways of its parts, which have the same sum.

    The ways of the parts are laid side by side, each as long as its amount, and joined where they overlap.
    """
    names = names_of(question)
    begun = [({}, total(carried[0]))]
    for part, amounts in zip(parts, carried):
        begun = _side_by_side(begun, [(dict(zip(names_of(part), way)), amount) for way, amount in amounts])
    return tuple(sorted([(tuple([meant[name] for name in names]), amount) for meant, amount in begun]))


def _side_by_side(ones, others):
    joined = []
    places, left = [0, 0], [ones[0][1], others[0][1]]
    while places[0] < len(ones):
        amount = min(left)
        joined.append(({**ones[places[0]][0], **others[places[1]][0]}, amount))
        for side, laid in enumerate((ones, others)):
            left[side] -= amount
            if left[side] == 0:
                places[side] += 1
                left[side] = laid[places[side]][1] if places[side] < len(laid) else 0
    return joined


def up_to(amounts, limit):
    """Return the first amounts, the last one perhaps less than it was, that have a sum; all have it or more."""
    kept, left = [], limit
    for way, amount in amounts:
        if left > 0:
            kept.append((way, min(amount, left)))
            left -= amount
    return kept
