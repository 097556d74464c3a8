"""Open rows of closed questions, and sets of them.

With the ruled tables made firm, where nothing is pinned, the open rows are the loose ones that are not pinned.
"""

from answercut.amounts import are_amounts, are_loose_rows, fit, is_loose_row, total
from answercut.lines import ruling
from answercut.nets import as_keys, courses_of, piece_lines
from answercut.questions import meaning_of, part_names


def open_prices(question, prices, pinned):
    """Return the prices, or None for the ruled tables, too, if nothing is pinned."""
    if pinned is not None:
        return dict(prices)
    tables = ruling(question, prices)
    return {table: price if table in tables else None for table, price in prices.items()}


def held_rows(pinned):
    """Return the tuple of the pinned rows; with prices of open_prices it doesn't matter whether it was None."""
    return () if pinned is None else pinned


def is_open_row(book, opened, pinned, thing):
    """Return whether any object is an open row by prices of open_prices."""
    return is_loose_row(book, opened, thing) and thing not in held_rows(pinned)


def are_open_rows(book, opened, pinned, thing):
    """Return whether any object is an ascending tuple of different open rows by prices of open_prices."""
    if not are_loose_rows(book, opened, thing):
        return False
    held = held_rows(pinned)
    return not any([pair in held for pair in thing])


def are_open_amounts(book, question, opened, pinned, changes, due, thing):
    """Return whether any object is amounts with a sum that is due, with bounds for open rows alone.

    Changes are a dict from pairs to how much more than their prices they may carry.
    """
    if not are_amounts(book, question, thing) or total(thing) != due:
        return False
    return fit(question, opened, thing, as_keys(held_rows(pinned)), changes)


def open_courses(book, question, opened, pinned):
    """Return the courses of the pieces along their told lines; raise NoLine or TooMany as least_cut does."""
    held = held_rows(pinned)
    return courses_of(book, question, opened, held, piece_lines(question, opened, held))


def has_way(book, question):
    """Return whether a closed question that fits the book has a way, however many it has.

    Of what fits the atoms that were looked at only the integers of the names that stand in others, too, are kept.
    """
    left = list(question[1])
    names, found = [], {(): True}
    while left:
        table, parts = min(left, key=lambda atom: len(_fresh(atom[1], names)))
        left = [atom for atom in left if atom[0] != table]
        rest = {name: True for _, other in left for name in part_names(other)}
        kept = [name for name in sorted(set(names + part_names(parts))) if name in rest]
        meanings = [meaning_of(parts, row) for row in book[table][1]]
        found = _joined(found, names, [meant for meant in meanings if meant is not None], kept)
        names = kept
    return len(found) > 0


def _fresh(parts, names):
    return sorted({name for name in part_names(parts) if name not in names})


def _joined(found, names, meanings, kept):
    """Return the integers for the kept names of all that was found and fits what the rows of an atom mean."""
    common = [name for name in names if meanings and name in meanings[0]]
    fitting = {}
    for meant in meanings:
        fitting.setdefault(tuple([meant[name] for name in common]), []).append(meant)
    joined = {}
    for worths in found:
        known = dict(zip(names, worths))
        for meant in fitting.get(tuple([known[name] for name in common]), []):
            joined[tuple([meant.get(name, known.get(name)) for name in kept])] = True
    return joined
