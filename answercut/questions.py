"""Questions that books answer: their names, pieces, ways and answers."""

from answercut.books import is_integer, is_name, is_worth
from answercut.errors import NoAnswer, NoPrice, NoQuestion, TooMany

MOST_ATOMS = 6
MOST_PARTS = 6
MOST_NAMES = 8
MOST_WAYS = 2000


def is_question(thing):
    """Return whether any object is a question: its head and its atoms."""
    if not isinstance(thing, tuple) or len(thing) != 2:
        return False
    head, atoms = thing
    if not isinstance(atoms, tuple) or not 1 <= len(atoms) <= MOST_ATOMS:
        return False
    if not all([_is_atom(atom) for atom in atoms]):
        return False
    names = names_of(thing)
    once = len({table for table, _ in atoms}) == len(atoms)
    return once and len(names) <= MOST_NAMES and _is_head(head, names)


def _is_atom(thing):
    if not isinstance(thing, tuple) or len(thing) != 2:
        return False
    table, parts = thing
    if not is_name(table) or not isinstance(parts, tuple) or not 1 <= len(parts) <= MOST_PARTS:
        return False
    return all([is_name(part) or is_worth(part) for part in parts])


def _is_head(thing, names):
    # Only what is found among the names is surely fit to be a member of a set.
    if not isinstance(thing, tuple) or not all([name in names for name in thing]):
        return False
    return len(set(thing)) == len(thing)


def need_question(book, question):
    """Raise NoQuestion unless any object question is a question that fits the book."""
    if not is_question(question):
        raise NoQuestion("this is no question")
    for table, parts in question[1]:
        if table not in book or book[table][0] != len(parts):
            raise NoQuestion("the question does not fit the book")


def need_closed(book, question):
    """Raise NoQuestion unless any object question is a closed question that fits the book."""
    need_question(book, question)
    if question[0]:
        raise NoQuestion("the question has head names")


def is_price(thing):
    """Return whether any object is a price of single rows."""
    return is_worth(thing) and thing >= 1


def need_prices(question, prices):
    """Raise NoPrice unless any object prices is a dict of prices of the question."""
    need_worths(question, prices, is_price)


def need_worths(question, prices, is_right):
    """Raise NoPrice unless any object prices is a dict from the question's tables to None or what is right."""
    atoms = question[1]
    # As the tables are different, a dict of as many keys with each of them has no other key.
    if not isinstance(prices, dict) or len(prices) != len(atoms):
        raise NoPrice("these are no prices of the question's tables")
    for table, _ in atoms:
        if table not in prices:
            raise NoPrice("a table has neither a price nor None")
        if prices[table] is not None and not is_right(prices[table]):
            raise NoPrice("this is no price")


def names_of(question):
    """Return the ascending tuple of the names in a question's atoms."""
    return tuple(sorted({name for _, parts in question[1] for name in part_names(parts)}))


def part_names(parts):
    """Return the list of the names among an atom's parts, each as often as it stands there."""
    return [part for part in parts if isinstance(part, str)]


def pieces(question):
    """Return the tuple of the pieces, each a tuple of tables in the order of the atoms."""
    atoms = question[1]
    groups = []
    for place in range(len(atoms)):
        touched = [group for group in groups if _touches(atoms, place, group)]
        apart = [group for group in groups if group not in touched]
        joined = sorted([other for group in touched for other in group] + [place])
        groups = apart + [joined]
    return tuple([tuple([atoms[at][0] for at in group]) for group in sorted(groups)])


def _touches(atoms, place, group):
    names = part_names(atoms[place][1])
    return any([name in names for other in group for name in part_names(atoms[other][1])])


def part_of(question, piece):
    """Return the closed question of the atoms of a tuple of some of the question's tables."""
    return (), tuple([atom for atom in question[1] if atom[0] in piece])


def ways(book, question):
    """Return the ascending list of the question's ways in the book."""
    need_question(book, question)
    return _all_ways(book, question[1])


def answers(book, question):
    """Return the ascending list of the question's answers in the book."""
    found = ways(book, question)
    names = names_of(question)
    places = [names.index(name) for name in question[0]]
    return sorted({_chosen(way, places) for way in found})


def holds(book, question):
    """Return whether the question has a way in the book, taken piece by piece."""
    need_question(book, question)
    # A piece that is too large is told even if another piece has no way.
    found = [_all_ways(book, part_of(question, piece)[1]) for piece in pieces(question)]
    return all(found)


def _all_ways(book, atoms):
    names, found = [], [()]
    for table, parts in atoms:
        common = [name for name in names if name in parts]
        fresh = [name for name in sorted(set(part_names(parts))) if name not in names]
        ends = _ends(parts, book[table][1], common, fresh)
        found = _longer(found, [names.index(name) for name in common], ends)
        names = names + fresh
    places = [names.index(name) for name in sorted(names)]
    return sorted([_chosen(way, places) for way in found])


def _ends(parts, rows, common, fresh):
    """Return a dict from integers for the common names to all that the fresh ones may be with them."""
    ends = {}
    for row in rows:
        meant = meaning_of(parts, row)
        if meant is not None:
            begun = tuple([meant[name] for name in common])
            ends.setdefault(begun, []).append(tuple([meant[name] for name in fresh]))
    return ends


def meaning_of(parts, row):
    """Return the dict from the names among an atom's parts to their integers in a row, None if it can't fit."""
    meant = {}
    for part, worth in zip(parts, row):
        if not isinstance(part, str):
            if part != worth:
                return None
        elif meant.setdefault(part, worth) != worth:
            return None
    return meant


def _longer(found, places, ends):
    """Return each of the ways found with each end that fits its integers at the places."""
    longer = []
    for way in found:
        for end in ends.get(_chosen(way, places), []):
            longer.append(way + end)
            if len(longer) > MOST_WAYS:
                raise TooMany(MOST_WAYS)
    return longer


def _chosen(way, places):
    return tuple([way[place] for place in places])


def rows_of(question, way):
    """Return the tuple of the pairs (table, row) of a way, in the order of the atoms."""
    return _put(question[1], names_of(question), way)


def is_way(book, question, thing):
    """Return whether any object is a way of a question that fits the book."""
    if not isinstance(thing, tuple) or len(thing) != len(names_of(question)):
        return False
    # True and False equal integers of rows, so they are told apart ahead of the rows.
    if not all([is_integer(worth) for worth in thing]):
        return False
    return all([row in book[table][1] for table, row in rows_of(question, thing)])


def put_answer(question, answer):
    """Return the closed question with the integers of an answer in the place of the head names."""
    head, atoms = question
    if not isinstance(answer, tuple) or len(answer) != len(head):
        raise NoAnswer("this is no tuple of as many integers as there are head names")
    if not all([is_worth(worth) for worth in answer]):
        raise NoAnswer("an answer has integers from 0 to 10 ** 30 alone")
    return (), _put(atoms, head, answer)


def _put(atoms, names, worths):
    """Return the atoms with integers in the place of some names."""
    meant = dict(zip(names, worths))
    return tuple([(table, tuple([meant.get(part, part) for part in parts])) for table, parts in atoms])
