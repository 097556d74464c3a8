"""What the document says, tried out one by one: slow, and without the package's own ways of doing it."""

import itertools
import random
from fractions import Fraction


def names_of(question):
    return sorted({part for _, parts in question[1] for part in parts if isinstance(part, str)})


def table_names(question):
    return {table: {part for part in parts if isinstance(part, str)} for table, parts in question[1]}


def ways(book, question):
    """The ascending list of the ways, by putting row beside row."""
    names = names_of(question)
    found = [{}]
    for table, parts in question[1]:
        longer = []
        for meant in found:
            for row in book[table][1]:
                fits = dict(meant)
                if all(fits.setdefault(part, worth) == worth if isinstance(part, str) else part == worth
                       for part, worth in zip(parts, row)):
                    longer.append(fits)
        found = longer
    return sorted(tuple(meant[name] for name in names) for meant in found)


def rows_of(question, way):
    meant = dict(zip(names_of(question), way))
    return tuple((table, tuple(meant.get(part, part) for part in parts)) for table, parts in question[1])


def pieces(question):
    names = table_names(question)
    found = []
    for table in names:
        if not any(table in piece for piece in found):
            reach = {table}
            for _ in names:
                reach = {other for other in names if other in reach or any(names[other] & names[one] for one in reach)}
            found.append(tuple(other for other in names if other in reach))
    return found


def part_of(question, tables):
    return (), tuple(atom for atom in question[1] if atom[0] in tables)


def lost(book, pairs):
    return {table: (width, tuple(row for row in rows if (table, row) not in pairs)) for table, (width, rows) in book.items()}


def loose_tables(question, prices):
    return tuple(table for table, _ in question[1] if prices[table] is not None)


def loose_pairs(book, question, prices):
    return sorted((table, row) for table in loose_tables(question, prices) for row in book[table][1])


def subsets(things):
    for many in range(len(things) + 1):
        yield from itertools.combinations(things, many)


def rules(question, prices, one, other):
    """Point 8, for two loose tables."""
    names, order = table_names(question), [table for table, _ in question[1]]
    together = any(one in piece and other in piece for piece in pieces(question))
    if one == other or not together or not names[one] <= names[other] or prices[one] > prices[other]:
        return False
    return names[one] != names[other] or prices[one] != prices[other] or order.index(one) < order.index(other)


def ruling(question, prices):
    loose = loose_tables(question, prices)
    return tuple(table for table in loose if not any(rules(question, prices, other, table) for other in loose))


def parts(question, middle, one, other):
    """Point 9: whether middle parts one and other."""
    names = table_names(question)
    left = {table: names[table] - names[middle] for table in names}
    reach = {one}
    for _ in names:
        reach |= {table for table in names if any(left[table] & left[had] for had in reach)}
    return other not in reach


def is_line(question, order):
    return all(parts(question, order[j], order[i], order[k]) for i, j, k in itertools.combinations(range(len(order)), 3))


def lines(question, tables):
    """All lines, the told one first."""
    places = [table for table, _ in question[1]]
    orders = sorted(itertools.permutations(tables), key=lambda order: [places.index(table) for table in order])
    return [order for order in orders if is_line(question, order)]


def triads(question, tables):
    """All triads, ascending by the places of their tables."""
    return [
        triad for triad in itertools.combinations(tables, 3)
        if not any(parts(question, triad[j], *(triad[:j] + triad[j + 1:])) for j in range(3))
    ]


def is_chain(question, chain, start, end, past):
    names = table_names(question)
    return chain[0] == start and chain[-1] == end and all(
        (names[one] & names[other]) - names[past] for one, other in zip(chain, chain[1:])
    )


def price_of(prices, pairs):
    return sum(prices[table] for table, _ in pairs)


def is_cut(made, pairs):
    """Whether each of some ways, as tuples of rows, has one of the pairs."""
    return all(any(pair in pairs for pair in rows) for rows in made)


def least_cuts(book, question, prices, pinned, tables):
    """The least price of a cut of open rows of some tables, None if there is none, and all such cuts."""
    made = [rows_of(question, way) for way in ways(book, question)]
    useful = sorted({pair for rows in made for pair in rows if pair[0] in tables and pair not in (pinned or ())})
    best, found = None, []
    for chosen in subsets(useful):
        price = price_of(prices, chosen)
        if (best is None or price <= best) and is_cut(made, chosen):
            found = [chosen] if best is None or price < best else found + [chosen]
            best = price
    return best, found


def line_tables(question, prices, pinned, piece):
    tables = ruling(question, prices) if pinned is None else loose_tables(question, prices)
    return tuple(table for table in tables if table in piece)


def ahead_of(made, line, cut):
    """The rows of a line's tables that lie ahead of a cut: point 10."""
    found = set()
    for rows in made:
        held = dict(rows)
        for table in line:
            if (table, held[table]) in cut:
                break
            found.add((table, held[table]))
    return found


def told_cut(book, question, prices, pinned):
    """(price, rows) of the told cut, or None if there is none; each piece has a line."""
    best = None
    for piece in pieces(question):
        part = part_of(question, piece)
        tables = line_tables(question, prices, pinned, piece)
        price, cuts = least_cuts(book, part, prices, pinned, tables)
        if price is not None and (best is None or price < best[0]):
            line = lines(question, tables)[0]
            made = [rows_of(part, way) for way in ways(book, part)]
            ahead = [ahead_of(made, line, cut) for cut in cuts]
            nearest = [cut for cut, rows in zip(cuts, ahead) if all(rows <= other for other in ahead)]
            assert len(nearest) == 1, (book, question, prices, pinned)
            best = price, nearest[0]
    return best


def stands(question, prices, pinned, way):
    return all(prices[pair[0]] is None or pair in (pinned or ()) for pair in rows_of(question, way))


def is_integer(thing):
    return type(thing) is int


def same(thing, other):
    """Whether two objects are equal and no True stands for an integer."""
    if type(thing) is not type(other):
        return False
    if isinstance(thing, (tuple, list)):
        return len(thing) == len(other) and all(same(one, two) for one, two in zip(thing, other))
    return thing == other


def are_pairs(thing, allowed):
    """Whether any object is an ascending tuple of different ones of some pairs."""
    if type(thing) is not tuple or not all(any(same(pair, one) for one in allowed) for pair in thing):
        return False
    return list(thing) == sorted(set(thing))


def are_amounts(book, question, prices, free, thing):
    """Whether any object is amounts on ways that keep the bounds of all loose rows but the free ones; their sum."""
    if type(thing) is not tuple or not all(type(pair) is tuple and len(pair) == 2 for pair in thing):
        return False
    known = ways(book, question)
    if not all(any(same(way, one) for one in known) and is_integer(amount) and amount > 0 for way, amount in thing):
        return False
    if [way for way, _ in thing] != sorted({way for way, _ in thing}):
        return False
    carried = {}
    for way, amount in thing:
        for pair in rows_of(question, way):
            carried[pair] = carried.get(pair, 0) + amount
    return all(load <= prices[pair[0]] for pair, load in carried.items() if prices[pair[0]] is not None and pair not in free)


def judge_least(book, question, prices, pinned, thing):
    """Point 11 and the judge of least cuts, by trial."""
    if type(thing) is not tuple or len(thing) not in (2, 4):
        return False
    if len(thing) == 2:
        known = [way for way in ways(book, question) if stands(question, prices, pinned, way)]
        return same(thing[0], "stands") and any(same(thing[1], way) for way in known)
    word, price, rows, amounts = thing
    if not same(word, "cut") or not is_integer(price) or not judge_cut(book, question, prices, pinned, rows):
        return False
    if price != price_of(prices, rows) or not are_amounts(book, question, prices, pinned or (), amounts):
        return False
    return sum(amount for _, amount in amounts) == price


def judge_cut(book, question, prices, pinned, thing):
    allowed = [pair for pair in loose_pairs(book, question, prices) if pair not in (pinned or ())]
    return are_pairs(thing, allowed) and not ways(lost(book, thing), question)


def blame_sets(book, question, prices, pair):
    """Point 12: all sets F, ascending."""
    if not ways(book, question):
        return []
    part = part_of(question, [piece for piece in pieces(question) if pair[0] in piece][0])
    made = [rows_of(part, way) for way in ways(book, part)]
    return sorted({tuple(sorted(one for one in rows if prices[one[0]] is not None)) for rows in made if pair in rows})


def least_blame(book, question, prices, pair):
    """The least price of a G, by all sets G of other loose rows; None if there is none."""
    made = [rows_of(question, way) for way in ways(book, question)]
    others = [one for one in loose_pairs(book, question, prices) if one != pair and any(one in rows for rows in made)]
    best = None
    for chosen in subsets(others):
        price = price_of(prices, chosen)
        if (best is None or price < best) and not is_cut(made, chosen) and is_cut(made, chosen + (pair,)):
            best = price
    return best


def judge_blame(book, question, prices, pair, thing):
    sets = blame_sets(book, question, prices, pair)
    part = part_of(question, [piece for piece in pieces(question) if pair[0] in piece][0])
    fewer = lost(book, [pair])
    if type(thing) is not tuple or len(thing) not in (2, 5):
        return False
    papers = thing[-1]
    if type(papers) is not tuple or not all(type(paper) is tuple and len(paper) == 2 for paper in papers):
        return False
    if not same(tuple(paper[0] for paper in papers), tuple(sets)):
        return False
    if len(thing) == 2:
        known = ways(fewer, part)
        return same(thing[0], "none") and all(
            any(same(way, one) for one in known) and stands(part, prices, rows, way) for rows, way in papers
        )
    word, price, rows, way, _ = thing
    others = [one for one in loose_pairs(book, question, prices) if one != pair]
    if not same(word, "blame") or not sets or not is_integer(price) or not are_pairs(rows, others):
        return False
    left = ways(lost(book, rows), part)
    if price != price_of(prices, rows) or not any(same(way, one) for one in left) or pair not in rows_of(part, way):
        return False
    if ways(lost(book, tuple(rows) + (pair,)), part):
        return False
    return all(
        are_amounts(fewer, part, prices, free, amounts) and sum(amount for _, amount in amounts) >= price
        and all(amount < 10 ** 40 for _, amount in amounts) for free, amounts in papers
    )


def counts(book, question, loose):
    """Point 13, by all sets of loose rows."""
    made = [{pair for pair in rows_of(question, way) if pair[0] in loose} for way in ways(book, question)]
    pairs = sorted((table, row) for table, _ in question[1] if table in loose for row in book[table][1])
    return tuple(
        sum(any(rows <= set(chosen) for rows in made) for chosen in itertools.combinations(pairs, many))
        for many in range(len(pairs) + 1)
    )


def chance(book, question, chances):
    made = [{pair for pair in rows_of(question, way) if pair[0] in chances} for way in ways(book, question)]
    pairs = [(table, row) for table, _ in question[1] if table in chances for row in book[table][1]]
    whole = Fraction(0)
    for chosen in subsets(pairs):
        if any(rows <= set(chosen) for rows in made):
            weight = Fraction(1)
            for table, row in pairs:
                there = Fraction(*chances[table][row])
                weight *= there if (table, row) in chosen else 1 - there
            whole += weight
    return whole.numerator, whole.denominator


def crossing(question):
    names, tables = names_of(question), table_names(question)
    for name in names:
        for other in names:
            has = [[table for table in tables if (name in tables[table], other in tables[table]) == told]
                   for told in ((True, True), (True, False), (False, True))]
            if all(has):
                return name, other, tuple(found[0] for found in has)
    return None


PARTS = ("x", "y", "z", "u", "v")


def some_question(source, most_atoms=4, names=PARTS, most_parts=3):
    """A closed question, perhaps with integers, the same name twice, several pieces."""
    tables = source.sample("abcdefgh", source.randint(1, most_atoms))
    atoms = []
    for table in tables:
        atom = [source.choice(names) if source.random() < 0.93 else source.randint(0, 2)
                for _ in range(source.randint(1, most_parts))]
        atoms.append((table, tuple(atom)))
    return (), tuple(atoms)


def some_book(source, question, most_rows=4, worths=3):
    """A book that fits the question; its tables are not in the question's order."""
    book = {}
    for table, parts in sorted(question[1]):
        rows = {tuple(source.randrange(worths) for _ in parts) for _ in range(source.randint(0, most_rows))}
        book[table] = (len(parts), tuple(sorted(rows)))
    return book


def some_prices(source, question, most=3, firm=0.25):
    return {table: None if source.random() < firm else source.randint(1, most) for table, _ in question[1]}


def some_pinned(source, book, question, prices):
    pairs = loose_pairs(book, question, prices)
    chosen = source.choice((None, None, 0.0, 0.2, 0.5))
    return None if chosen is None else tuple(pair for pair in pairs if source.random() < chosen)


def source_of(number):
    return random.Random(number)


def judge_line(question, tables, thing):
    if type(thing) is not tuple or not all(type(table) is str for table in thing):
        return False
    return sorted(thing) == sorted(tables) and is_line(question, thing)


def judge_triad(question, tables, thing):
    if type(thing) is not tuple or len(thing) != 2 or not all(type(part) is tuple and len(part) == 3 for part in thing):
        return False
    triad, chains = thing
    if not all(type(table) is str for table in triad) or len(set(triad) & set(tables)) < 3:
        return False
    if any(parts(question, triad[j], *(triad[:j] + triad[j + 1:])) for j in range(3)):
        return False
    known = [table for table, _ in question[1]]
    for chain, (start, end, past) in zip(chains, [(0, 1, 2), (0, 2, 1), (1, 2, 0)]):
        if type(chain) is not tuple or not chain or not all(any(same(table, one) for one in known) for table in chain):
            return False
        if not is_chain(question, chain, triad[start], triad[end], triad[past]):
            return False
    return True


def answers(book, question):
    names = names_of(question)
    places = [names.index(name) for name in question[0]]
    return sorted({tuple(way[place] for place in places) for way in ways(book, question)})


def put_answer(question, answer):
    meant = dict(zip(question[0], answer))
    return (), tuple((table, tuple(meant.get(part, part) for part in parts)) for table, parts in question[1])


def least_price(book, question, prices):
    """The least price of a cut by all sets of loose rows of ways, with a line or without; None if there is none."""
    best, found = least_cuts(book, question, prices, None, loose_tables(question, prices))
    return best if found else None


def with_offers(book, offers):
    return {table: (width, tuple(sorted(rows + tuple(offers.get(table, ()))))) for table, (width, rows) in book.items()}


def wish(book, question, offers):
    """Point 17, by all sets of offered rows."""
    pairs = sorted((table, row) for table, rows in offers.items() for row in rows)
    found = []
    for chosen in subsets(pairs):
        some = {table: [row for other, row in chosen if other == table] for table in book}
        if ways(with_offers(book, some), question):
            found.append((sum(offers[table][row] for table, row in chosen), len(chosen), chosen))
    if not found:
        return None
    price, _, rows = min(found)
    return price, rows


def some_offers(source, book, most=3, worths=3):
    """Offers for some tables of a book, not in its order."""
    offers = {}
    for table in source.sample(sorted(book), source.randint(0, len(book))):
        width, rows = book[table]
        made = [tuple(source.randrange(worths) for _ in range(width)) for _ in range(source.randint(0, most))]
        offers[table] = {row: source.randint(1, 3) for row in made if row not in rows}
    return offers
