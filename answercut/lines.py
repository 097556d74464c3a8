"""Ruling tables, lines of loose tables, and the triads that stand where there is no line."""

from itertools import combinations, permutations

from answercut.errors import NoLine
from answercut.questions import part_names, pieces


def loose_tables(question, prices):
    """Return the tuple of the loose tables, in the order of the atoms."""
    return tuple([table for table, _ in question[1] if prices[table] is not None])


def ruling(question, prices):
    """Return the tuple of the ruling tables, in the order of the atoms."""
    return ruling_by(question, _as_tuples(prices))


def ruling_by(question, worths):
    """Return the tuple of the ruling tables by tuples of integers, None for a firm table.

    A table whose integers are not greater than those of another one, each by itself, may rule it.
    """
    ruled = _ruled(question, worths)
    return tuple([table for table in loose_tables(question, worths) if not ruled[table]])


def _as_tuples(prices):
    return {table: None if price is None else (price,) for table, price in prices.items()}


def rulers(question, prices):
    """Return the tuple of pairs: a table that is not ruling, and the first ruling one that rules it."""
    ruled = _ruled(question, _as_tuples(prices))
    loose = loose_tables(question, prices)
    # Ruling goes on from table to table without an end in itself, so a ruled table has a ruling ruler.
    first = {table: [ruler for ruler in ruled[table] if not ruled[ruler]] for table in loose}
    return tuple([(table, first[table][0]) for table in loose if first[table]])


def _ruled(question, worths):
    """Return a dict from each loose table to the list of those that rule it, in the order of the atoms."""
    names = names_by_table(question)
    loose = loose_tables(question, worths)
    ruled = {table: [] for table in loose}
    for piece in pieces(question):
        inside = [table for table in loose if table in piece]
        for table in inside:
            ruled[table] = [other for other in inside if _rules(names, worths, inside, other, table)]
    return ruled


def _rules(names, worths, tables, one, other):
    """Return whether of the tables of a piece, which are in the order of the atoms, one rules another one."""
    dearer = any([worth > more for worth, more in zip(worths[one], worths[other])])
    if dearer or not all([name in names[other] for name in names[one]]):
        return False
    same = worths[one] == worths[other] and set(names[one]) == set(names[other])
    return not same or tables.index(one) < tables.index(other)


def names_by_table(question):
    """Return a dict from the question's tables to the lists of the names in their atoms."""
    return {table: part_names(parts) for table, parts in question[1]}


def line_of(question, tables):
    """Return the told line of some loose tables of a piece, None if they have none."""
    reached = _reached(question, tables)
    inside = _in_order(question, tables)
    for order in permutations(inside):
        if _is_line(reached, order):
            return order
    return None


def triad_of(question, tables):
    """Return the least triad of some loose tables of a piece and its chains, None if they have none."""
    reached = _reached(question, tables)
    inside = _in_order(question, tables)
    for triad in combinations(inside, 3):
        if _is_triad(reached, triad):
            return triad, tuple([_chain(reached[past][start], end) for start, end, past in _turns(triad)])
    return None


def need_line(question, tables):
    """Return the told line of some loose tables of a piece, or raise NoLine with their triad."""
    line = line_of(question, tables)
    if line is None:
        raise NoLine(triad_of(question, tables))
    return line


def shows_line(question, tables, thing):
    """Return whether any object is a line of all the tables."""
    if not isinstance(thing, tuple) or len(thing) != len(tables):
        return False
    if not all([table in thing for table in tables]):
        return False
    return _is_line(_reached(question, tables), thing)


def shows_triad(question, tables, thing):
    """Return whether any object is a triad of the tables, in any order, and its chains."""
    if not isinstance(thing, tuple) or len(thing) != 2:
        return False
    triad, chains = thing
    if not isinstance(triad, tuple) or len(triad) != 3 or not all([table in tables for table in triad]):
        return False
    if len(set(triad)) != 3 or not isinstance(chains, tuple) or len(chains) != 3:
        return False
    names = names_by_table(question)
    turns = _turns(triad)
    return all([_is_chain(names, chain, turn) for chain, turn in zip(chains, turns)])


def _in_order(question, tables):
    return [table for table, _ in question[1] if table in tables]


def _turns(triad):
    """Return for each chain of a triad the table where it begins, where it ends, and which it leads past."""
    one, two, three = triad
    return [(one, two, three), (one, three, two), (two, three, one)]


def _is_line(reached, order):
    places = range(len(order))
    return all([
        order[end] not in reached[order[at]][order[start]]
        for at in places for start in places if start < at for end in places if end > at
    ])


def _is_triad(reached, triad):
    return all([end in reached[past][start] for start, end, past in _turns(triad)])


def _reached(question, tables):
    """Return for each table that is led past, and each one where chains begin, what _reached_past returns."""
    names = names_by_table(question)
    return {past: {start: _reached_past(names, start, past) for start in tables} for past in tables}


def _reached_past(names, start, past):
    """Return a dict from each table that a chain from start, past a table, comes to, to the table ahead of it."""
    ahead = {start: None}
    waiting = [start]
    while waiting:
        table = waiting.pop(0)
        for other in names:
            if other not in ahead and _touch_past(names, table, other, past):
                ahead[other] = table
                waiting.append(other)
    return ahead


def _touch_past(names, one, other, past):
    return any([name in names[other] and name not in names[past] for name in names[one]])


def _chain(ahead, end):
    """Return the chain that comes to a table; no table stands in it twice."""
    chain = [end]
    while ahead[chain[-1]] is not None:
        chain.append(ahead[chain[-1]])
    return tuple(chain[::-1])


def _is_chain(names, thing, turn):
    """Return whether any object is a chain from one table to another one past a third one."""
    start, end, past = turn
    if not isinstance(thing, tuple) or not thing or not all([_is_table_of(names, table) for table in thing]):
        return False
    if thing[0] != start or thing[-1] != end:
        return False
    return all([_touch_past(names, one, other, past) for one, other in zip(thing, thing[1:])])


def _is_table_of(names, thing):
    return isinstance(thing, str) and thing in names
