"""Counts, shares and chances of nested questions.

All three come from weights: a loose row has a weight if it is there and another one if it is lost. The weight of a set
of rows is the product of these weights of all loose rows. Weights are lists of integers, read as sums of powers: the
item at the place k stands before the k-th power; both weights of a row have as many items. So with the first power for
each row that is there, the sum of the weights of some sets tells how many of them have k rows.
"""

from math import factorial, gcd

from answercut.errors import NotNested, TooMany
from answercut.questions import meaning_of, names_of, part_names

MOST_LOOSE_ROWS = 40


def crossing(question):
    """Return the first two names that cross and the first tables that show it, None if the question is nested."""
    names = names_of(question)
    standing = {name: [table for table, parts in question[1] if name in parts] for name in names}
    for name in names:
        for other in names:
            both = [table for table in standing[name] if table in standing[other]]
            one = [table for table in standing[name] if table not in standing[other]]
            rest = [table for table in standing[other] if table not in standing[name]]
            if both and one and rest:
                return name, other, (both[0], one[0], rest[0])
    return None


def loose_rows(book, question, loose):
    """Return the ascending tuple of the rows of the loose tables, pairs (table, row)."""
    tables = [table for table, _ in question[1] if table in loose]
    return tuple(sorted([(table, row) for table in tables for row in book[table][1]]))


def counts(book, question, loose):
    """Return for k from 0 on the number of the sets of k loose rows with which the question holds."""
    return tuple(counts_of(book, question, need_few(book, question, loose), None))


def shares(book, question, loose):
    """Return the tuple of (table, row, share) of all loose rows, ascending."""
    rows = need_few(book, question, loose)
    every = counts_of(book, question, rows, None)
    return tuple([(table, row, _share(every, counts_of(book, question, rows, (table, row)))) for table, row in rows])


def chance(book, question, chances):
    """Return the chance that the question holds, each loose row being there by a chance of its own."""
    rows = need_few(book, question, tuple(chances))
    weights = {}
    for table, row in rows:
        over, under = chances[table][row]
        weights[(table, row)] = ([over], [under - over])
    held, every = _weigh_book(book, question, weights)
    return lowest(held[0], every[0])


def lowest(over, under):
    """Return the fraction of two integers in lowest terms."""
    common = gcd(over, under)
    return over // common, under // common


def need_few(book, question, loose):
    """Return the loose rows, or raise NotNested or TooMany."""
    paper = crossing(question)
    if paper is not None:
        raise NotNested(paper)
    rows = loose_rows(book, question, loose)
    if len(rows) > MOST_LOOSE_ROWS:
        raise TooMany(MOST_LOOSE_ROWS)
    return rows


def counts_of(book, question, rows, lost):
    """Return the list of the counts, one for each k up to the number of the loose rows, if one of them may be lost."""
    weights = {pair: ([0, 1], [1, 0]) for pair in rows}
    if lost is not None:
        weights[lost] = ([0], [1])
    held, _ = _weigh_book(book, question, weights)
    return held + [0 for _ in range(len(rows) + 1 - len(held))]


def _share(every, fewer):
    """Return the share of a loose row by the counts of the book with it and without it."""
    many = len(every) - 1
    parts = [
        factorial(k) * factorial(many - 1 - k) * (every[k + 1] - fewer[k + 1] - fewer[k]) for k in range(many)
    ]
    return lowest(sum(parts), factorial(many))


def _weigh_book(book, question, weights):
    """Return the weights of the sets of loose rows with which the question holds, and of all sets."""
    atoms, apart = [], [1]
    for table, parts in question[1]:
        fitting = []
        for row in book[table][1]:
            there, lost = weights.get((table, row), ([1], [0]))
            meant = meaning_of(parts, row)
            if meant is None:
                apart = _times(apart, _plus(there, lost))
            else:
                fitting.append((meant, there, lost))
        atoms.append((part_names(parts), fitting))
    held, every = _weigh(atoms)
    return _times(held, apart), _times(every, apart)


def _weigh(atoms):
    """Return both weights for atoms, pairs of their names and of the rows that fit them: these may have several pieces.

    Pieces have no table in common, so that the weights of their sets are multiplied.
    """
    held, every = [1], [1]
    for group in _groups(atoms):
        one, whole = _weigh_group(group)
        held, every = _times(held, one), _times(every, whole)
    return held, every


def _weigh_group(atoms):
    """Return both weights for the atoms of one piece."""
    if not atoms[0][0]:
        return _weigh_atom(atoms[0][1])
    # A nested piece has a name that stands in each of its atoms; no way has rows with different integers for it.
    root = [name for name in atoms[0][0] if all([name in names for names, _ in atoms])][0]
    lost, every = [1], [1]
    for worth in sorted({meant[root] for _, rows in atoms for meant, _, _ in rows}):
        one, whole = _weigh([(_without(names, root), _having(rows, root, worth)) for names, rows in atoms])
        lost, every = _times(lost, _minus(whole, one)), _times(every, whole)
    return _minus(every, lost), every


def _weigh_atom(rows):
    """Return both weights for an atom whose names all have their integers: one row fits it, or none."""
    if not rows:
        return [0], [1]
    _, there, lost = rows[0]
    return there, _plus(there, lost)


def _without(names, root):
    return [name for name in names if name != root]


def _having(rows, root, worth):
    return [row for row in rows if row[0][root] == worth]


def _groups(atoms):
    """Return the lists of the atoms that have names in common, directly or over other ones."""
    groups = []
    for atom in atoms:
        touched = [group for group in groups if _touches(atom, group)]
        apart = [group for group in groups if not _touches(atom, group)]
        groups = apart + [[other for group in touched for other in group] + [atom]]
    return groups


def _touches(atom, group):
    return any([name in names for names, _ in group for name in atom[0]])


def _plus(one, other):
    return [part + more for part, more in zip(one, other)]


def _minus(one, other):
    return [part - less for part, less in zip(one, other)]


def _times(one, other):
    made = [0 for _ in range(len(one) + len(other) - 1)]
    for at, factor in enumerate(one):
        for place, worth in enumerate(other):
            made[at + place] += factor * worth
    return made
