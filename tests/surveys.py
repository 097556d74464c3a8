"""What the document says of open rows, orders, roofs and several answers, tried out one by one."""

import itertools
import math
from fractions import Fraction

import references


def cases(first, many, most_atoms=4, most_rows=5, worths=2):
    """Small books, questions with lines, prices and pins; in many of them the question holds."""
    for number in range(first, first + many):
        source = references.source_of(number)
        question = references.some_question(source, most_atoms)
        book = references.some_book(source, question, most_rows, worths)
        prices = references.some_prices(source, question)
        pinned = references.some_pinned(source, book, question, prices)
        few = len(references.loose_pairs(book, question, prices)) < 13
        if few and has_lines(question, prices, pinned):
            yield source, book, question, prices, pinned


def has_lines(question, prices, pinned):
    tables = [references.line_tables(question, prices, pinned, piece) for piece in references.pieces(question)]
    return all(references.lines(question, some) for some in tables)


def open_tables(question, prices, pinned):
    return references.ruling(question, prices) if pinned is None else references.loose_tables(question, prices)


def open_pairs(book, question, prices, pinned):
    tables = open_tables(question, prices, pinned)
    return sorted((table, row) for table in tables for row in book[table][1] if (table, row) not in (pinned or ()))


def all_least(book, question, prices, pinned):
    """The price of the least cuts of open rows, None if there is none, and the list of them all."""
    return references.least_cuts(book, question, prices, pinned, open_tables(question, prices, pinned))


def is_true(claim, cuts):
    """Point 24, for a claim about all least cuts."""
    kind, rows = claim[0], claim[1:]
    has = [tuple(row in cut for row in rows) for cut in cuts]
    return {
        "each": all(told == (True,) for told in has),
        "not each": any(told == (False,) for told in has),
        "some": any(told == (True,) for told in has),
        "none": all(told == (False,) for told in has),
        "never both": not any(told == (True, True) for told in has),
        "both": any(told == (True, True) for told in has),
        "with": not any(told == (True, False) for told in has),
        "not with": any(told == (True, False) for told in has),
    }[kind]


KINDS = ("each", "not each", "some", "none", "never both", "both", "with", "not with")
OPPOSITES = (("each", "not each"), ("none", "some"), ("never both", "both"), ("with", "not with"))


def is_claim(book, question, prices, pinned, thing):
    """Whether any object is a claim about open rows."""
    known = open_pairs(book, question, prices, pinned)
    if type(thing) is not tuple or not thing or type(thing[0]) is not str or thing[0] not in KINDS:
        return False
    rows = thing[1:]
    if len(rows) != (1 if thing[0] in KINDS[:4] else 2):
        return False
    return all(any(references.same(row, one) for one in known) for row in rows) and len(set(rows)) == len(rows)


def carried_by(question, amounts):
    carried = {}
    for way, amount in amounts:
        for pair in references.rows_of(question, way):
            carried[pair] = carried.get(pair, 0) + amount
    return carried


def are_ways(book, question, thing):
    """Whether any object is amounts on ways, whatever the bounds are."""
    return references.are_amounts(book, question, {table: None for table, _ in question[1]}, (), thing)


def judge_claim(book, question, prices, pinned, claim, thing):
    """Point 24, row of the table by row."""
    if not is_claim(book, question, prices, pinned, claim):
        return False
    if type(thing) is not tuple or len(thing) != 3 or not references.is_integer(thing[0]):
        return False
    price, rows, amounts = thing
    known = open_pairs(book, question, prices, pinned)
    if not references.are_pairs(rows, known) or references.ways(references.lost(book, rows), question):
        return False
    if price != references.price_of(prices, rows) or not are_ways(book, question, amounts):
        return False
    kind, x, y = claim[0], claim[1], claim[-1]
    bounds = {pair: prices[pair[0]] for pair in known}
    due = price
    if kind == "each":
        right, due = x in rows, price + 1
        bounds[x] += 1
    elif kind == "not each":
        right = x not in rows
    elif kind == "some":
        right = x in rows
    elif kind == "none":
        right = True
        bounds[x] -= 1
    elif kind == "never both":
        right, due = True, price - 1 if price else 0
        bounds[x] -= 1
        bounds[y] -= 1
    elif kind == "both":
        right = x in rows and y in rows
    elif kind == "with":
        right = True
        bounds[x] -= 1
        bounds[y] += 1
    else:
        right = x in rows and y not in rows
    carried = carried_by(question, amounts)
    fits = all(carried[pair] <= bounds[pair] for pair in carried if pair in bounds)
    return right and fits and sum(amount for _, amount in amounts) == due


def closed_sets(steps):
    """All closed sets of steps, by trying all sets; few steps."""
    return [
        chosen for chosen in references.subsets(range(len(steps)))
        if all(ahead in chosen for number in chosen for ahead in steps[number][2])
    ]


def cut_of(first, steps, chosen):
    come = {pair for number in chosen for pair in steps[number][1]}
    left = {pair for number in chosen for pair in steps[number][0]}
    return tuple(sorted((set(first) | come) - left))


def claims_of(book, question, prices, pinned, first, steps):
    """The claims that point 27 lists, ascending."""
    part = piece_with(question, first[0][0])
    known = open_pairs(book, question, prices, pinned)
    on_ways = {pair for way in references.ways(book, part) for pair in references.rows_of(part, way) if pair in known}
    come = {pair for _, brought, _ in steps for pair in brought}
    claims = [("none", pair) for pair in on_ways if pair not in come and pair not in first]
    for number, (_, brought, ahead) in enumerate(steps):
        left = [pair for other in (*ahead, number) for pair in steps[other][0]]
        claims += [("never both", x, y) for x in brought for y in left]
    return sorted(claims)


def piece_with(question, table):
    return references.part_of(question, [piece for piece in references.pieces(question) if table in piece][0])


def is_order(book, question, prices, pinned, first, steps):
    """What point 27 asks of a nearest cut and steps, but for TooMany; any objects."""
    known = open_pairs(book, question, prices, pinned)
    if not references.are_pairs(first, known) or type(steps) is not tuple:
        return False
    for number, step in enumerate(steps):
        if type(step) is not tuple or len(step) != 3 or type(step[2]) is not tuple:
            return False
        if not all(references.are_pairs(rows, known) and rows for rows in step[:2]):
            return False
        if not all(references.is_integer(ahead) and 0 <= ahead < number for ahead in step[2]):
            return False
        if list(step[2]) != sorted(set(step[2])):
            return False
    come = [pair for step in steps for pair in step[1]]
    left = [pair for step in steps for pair in step[0]]
    if len(set(come)) < len(come) or len(set(left)) < len(left) or set(come) & set(first):
        return False
    if len({piece_with(question, table) for table, _ in come + left + list(first)}) != 1:
        return False
    for leaving, coming, ahead in steps:
        before = set(first) | {pair for other in ahead for pair in steps[other][1]}
        if not set(leaving) <= before or references.price_of(prices, leaving) != references.price_of(prices, coming):
            return False
        if any(other not in ahead for number in ahead for other in steps[number][2]):
            return False
    return True


def judge_order(book, question, prices, pinned, thing):
    """Point 27; any objects."""
    if type(thing) is not tuple or len(thing) != 4:
        return False
    first, steps, amounts, papers = thing
    if not is_order(book, question, prices, pinned, first, steps):
        return False
    bounds = {pair: prices[pair[0]] for pair in open_pairs(book, question, prices, pinned)}
    if not are_ways(book, question, amounts):
        return False
    carried = carried_by(question, amounts)
    if any(carried[pair] > bounds[pair] for pair in carried if pair in bounds):
        return False
    if sum(amount for _, amount in amounts) != references.price_of(prices, first):
        return False
    cuts = [cut_of(first, steps, chosen) for chosen in closed_sets(steps)]
    if any(references.ways(references.lost(book, cut), question) for cut in cuts):
        return False
    claims = claims_of(book, question, prices, pinned, first, steps)
    if type(papers) is not tuple or not all(type(paper) is tuple and len(paper) == 2 for paper in papers):
        return False
    if not references.same(tuple(claim for claim, _ in papers), tuple(claims)):
        return False
    return all(judge_claim(book, question, prices, pinned, claim, paper) for claim, paper in papers)


def ahead_sets(book, part, line, cuts):
    made = [references.rows_of(part, way) for way in references.ways(book, part)]
    return [references.ahead_of(made, line, cut) for cut in cuts]


def nearest_of(book, part, line, cuts):
    """The one of some cuts of which each row that lies ahead of it lies ahead of all the others, too."""
    ahead = ahead_sets(book, part, line, cuts)
    nearest = [cut for cut, rows in zip(cuts, ahead) if all(rows <= other for other in ahead)]
    assert len(nearest) == 1
    return nearest[0]


def moving_rules(question, moving, one, other):
    """Point 28, for two tables that are not firm."""
    names, order = references.table_names(question), [table for table, _ in question[1]]
    together = any(one in piece and other in piece for piece in references.pieces(question))
    if one == other or not together or not names[one] <= names[other]:
        return False
    if any(low > high for low, high in zip(moving[one], moving[other])):
        return False
    same = names[one] == names[other] and moving[one] == moving[other]
    return not same or order.index(one) < order.index(other)


def moving_tables(question, moving, pinned):
    """The tables of the lines by moving prices."""
    loose = references.loose_tables(question, moving)
    if pinned is not None:
        return loose
    return tuple(table for table in loose if not any(moving_rules(question, moving, other, table) for other in loose))


def at(moving, t):
    """The prices at a fraction."""
    return {table: None if pair is None else pair[0] + pair[1] * t for table, pair in moving.items()}


def least_at(book, question, moving, pinned, t):
    """The least price at t by all sets of rows that are not firm, None if there is no cut."""
    price, cuts = references.least_cuts(book, question, at(moving, t), pinned,
        references.loose_tables(question, moving))
    return price if cuts else None


def told_at(book, question, moving, pinned, t):
    """The told cut of point 10 at t, by the lines of point 28."""
    prices, tables = at(moving, t), moving_tables(question, moving, pinned)
    best = None
    for piece in references.pieces(question):
        part = references.part_of(question, piece)
        some = tuple(table for table in tables if table in piece)
        price, cuts = references.least_cuts(book, part, prices, pinned, some)
        if price is not None and (best is None or price < best[0]):
            best = price, nearest_of(book, part, references.lines(question, some)[0], cuts)
    return best


def sums(moving, rows):
    return sum(moving[table][0] for table, _ in rows), sum(moving[table][1] for table, _ in rows)


def envelope(book, question, moving, pinned):
    """The list of (beginning, A, B) of the least price of all cuts, by all their sums; None if there is no cut."""
    made = [references.rows_of(question, way) for way in references.ways(book, question)]
    useful = sorted({
        pair for rows in made for pair in rows if moving[pair[0]] is not None and pair not in (pinned or ())
    })
    lines = {sums(moving, chosen) for chosen in references.subsets(useful) if references.is_cut(made, chosen)}
    if not lines:
        return None
    start = Fraction(0)
    a, b = min(lines)
    found = [(start, a, b)]
    while True:
        later = [(Fraction(c - a, b - d), d, c) for c, d in lines if d < b]
        if not later:
            return found
        start, b, a = min(later)
        found.append((start, a, b))


def plain(t):
    t = Fraction(t)
    return t.numerator, t.denominator


def judge_roof(book, question, moving, pinned, thing):
    """Points 29 and 30; any objects."""
    if type(thing) is not tuple or len(thing) not in (2, 3):
        return False
    if len(thing) == 2:
        known = [way for way in references.ways(book, question) if references.stands(question, moving, pinned, way)]
        return references.same(thing[0], "stands") and any(references.same(thing[1], way) for way in known)
    word, stretches, papers = thing
    if not references.same(word, "roof") or type(stretches) is not tuple or not stretches or type(papers) is not tuple:
        return False
    known = [pair for pair in references.loose_pairs(book, question, moving) if pair not in (pinned or ())]
    for stretch in stretches:
        if type(stretch) is not tuple or len(stretch) != 4 or not is_fraction(stretch[0]):
            return False
        if not references.are_pairs(stretch[3], known) or references.ways(references.lost(book, stretch[3]), question):
            return False
        if not references.same(stretch[1:3], sums(moving, stretch[3])):
            return False
    starts = [Fraction(*stretch[0]) for stretch in stretches]
    if starts[0] != 0 or any(one >= other for one, other in zip(starts, starts[1:])):
        return False
    for (_, a, b, _), (_, c, d, _), t in zip(stretches, stretches[1:], starts[1:]):
        if b <= d or a + b * t != c + d * t:
            return False
    if len(papers) != len(stretches) + 1:
        return False
    ends = [(p, q, a * q + b * p) for (p, q), a, b, _ in stretches] + [(1, 0, stretches[-1][2])]
    for (p, q, due), amounts in zip(ends, papers):
        if not are_ways(book, question, amounts) or sum(amount for _, amount in amounts) != due:
            return False
        carried = carried_by(question, amounts)
        if any(carried.get(pair, 0) > moving[pair[0]][0] * q + moving[pair[0]][1] * p for pair in known):
            return False
    return True


def is_fraction(thing):
    return type(thing) is tuple and len(thing) == 2 and all(references.is_integer(part) for part in thing) and (
        thing[0] >= 0 and thing[1] >= 1 and math.gcd(*thing) == 1
    )


def some_moving(source, question, most=3):
    """Moving prices, some of them firm, 0 in one part, or the same."""
    moving = {}
    for table, _ in question[1]:
        pair = source.randint(0, most), source.randint(0, most)
        moving[table] = None if source.random() < 0.2 else pair if pair != (0, 0) else (0, 1)
    return moving


def moving_cases(first, many, most_atoms=4, most_rows=4, most=3):
    for number in range(first, first + many):
        source = references.source_of(number)
        question = references.some_question(source, most_atoms)
        book = references.some_book(source, question, most_rows, 2)
        moving = some_moving(source, question, most)
        pinned = references.some_pinned(source, book, question, moving)
        if len(references.loose_pairs(book, question, moving)) >= 12:
            continue
        tables = moving_tables(question, moving, pinned)
        lined = all(
            references.lines(question, tuple(table for table in tables if table in piece))
            for piece in references.pieces(question)
        )
        if lined:
            yield source, book, question, moving, pinned


def all_sets(things):
    return list(itertools.chain.from_iterable(itertools.combinations(things, n) for n in range(len(things) + 1)))
