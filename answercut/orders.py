"""The orders of all least cuts, their certificates, and the judge of these."""

from answercut.amounts import fit, open_rows, price_of, total, up_to
from answercut.books import is_integer, rises, without_rows
from answercut.claims import changes_of, shows_claim, sum_of
from answercut.errors import NoRow, TooMany
from answercut.nets import as_keys, cut_of_courses, need_pinned, piece_lines
from answercut.openings import are_open_amounts, are_open_rows, has_way, held_rows, open_courses, open_prices
from answercut.questions import part_of, pieces, rows_of, ways
from answercut.steps import steps_along

MOST_CUTS = 200


class Order:
    """An order of least cuts: the nearest one and steps (rows that leave, rows that come, steps ahead)."""

    def __init__(self, first, steps):
        self.first = first
        self.steps = steps

    def __eq__(self, other):
        return isinstance(other, Order) and self.first == other.first and self.steps == other.steps

    def __len__(self):
        return len(_closed_sets(self.steps))

    def plain(self):
        """Return (nearest cut, steps)."""
        return self.first, self.steps

    def cut(self, chosen):
        """Return the cut to which a closed set of steps, a list of their numbers, leads."""
        left = {pair: True for number in chosen for pair in self.steps[number][0]}
        come = [pair for number in chosen for pair in self.steps[number][1]]
        return tuple(sorted({pair for pair in list(self.first) + come if pair not in left}))

    def farthest(self):
        """Return the cut to which all steps lead."""
        return self.cut(list(range(len(self.steps))))

    def cuts(self):
        """Return the list of all cuts, by the number of steps, then ascending."""
        found = sorted([(len(chosen), self.cut(chosen)) for chosen in _closed_sets(self.steps)])
        return [cut for _, cut in found]


def _closed_sets(steps):
    """Return the list of the closed sets of steps, lists of numbers, if they are not too many."""
    # As the bits of integers: there may be many steps.
    found = [0]
    for number, step in enumerate(steps):
        ahead = sum([1 << other for other in step[2]])
        found = found + [bits | (1 << number) for bits in found if bits & ahead == ahead]
        if len(found) > MOST_CUTS:
            raise TooMany(MOST_CUTS)
    return [[number for number in range(len(steps)) if (bits >> number) & 1 == 1] for bits in found]


def orders(book, question, prices, pinned):
    """Return the list of the orders of all pieces with the least price, in their order."""
    return _least_price_and_orders(book, question, prices, pinned)[1]


def least_cuts(book, question, prices, pinned):
    """Return the list of all least cuts, order by order; [()] if the question does not hold, [] if there is none."""
    price, found = _least_price_and_orders(book, question, prices, pinned)
    if price == 0:
        return [()]
    cuts = [cut for order in found for cut in order.cuts()]
    if len(cuts) > MOST_CUTS:
        raise TooMany(MOST_CUTS)
    return cuts


def _least_price_and_orders(book, question, prices, pinned):
    """Return the least price, None if there is no cut, and the list of the orders."""
    need_pinned(book, question, prices, pinned)
    opened = open_prices(question, prices, pinned)
    courses = open_courses(book, question, opened, pinned)
    cuts = [course.cut(opened, {}) for course in courses]
    known = [cut[1] for cut in cuts if cut[0] == "cut"]
    if not known or min(known) == 0:
        return (0 if known else None), []
    least = ("cut", min(known))
    return least[1], [_order_of(course, opened) for course, cut in zip(courses, cuts) if cut[:2] == least]


def _order_of(course, opened):
    first, steps = steps_along(list(course.ways), course.bounds(opened, {}))
    return Order(first, steps)


def order_papers(book, question, prices, pinned, order):
    """Return (amounts, papers), the certificate of an order that orders returned for the same arguments."""
    opened = open_prices(question, prices, pinned)
    held = as_keys(held_rows(pinned))
    courses = open_courses(book, question, opened, pinned)
    first, steps = order.plain()
    amounts = cut_of_courses(question, courses, opened, {})[3]
    course = [each for each in courses if first[0] in each.kept][0]
    papers = []
    for claim in _claims_of(first, steps, [pair for pair, kept in course.kept.items() if not kept]):
        most = sum_of(claim, total(amounts))
        found = tuple(up_to(amounts, most))
        # Mostly the amounts that are known leave enough room.
        if not fit(question, opened, found, held, changes_of(claim)):
            found = tuple(up_to(cut_of_courses(question, courses, opened, changes_of(claim))[3], most))
        papers.append((claim, (total(amounts), first, found)))
    return amounts, tuple(papers)


def _claims_of(first, steps, rows):
    """Return the ascending list of the claims in an order's certificate; rows are the open rows of its piece's ways."""
    known = {pair: True for pair in list(first) + [pair for _, come, _ in steps for pair in come]}
    claims = [("none", pair) for pair in rows if pair not in known]
    for number, step in enumerate(steps):
        left = [pair for other in step[2] + (number,) for pair in steps[other][0]]
        claims.extend([("never both", one, other) for one in step[1] for other in left])
    return sorted(claims)


def shows_order(book, question, prices, pinned, thing):
    """Return whether any object is (nearest cut, steps, amounts, papers) and shows that all least cuts are told."""
    need_pinned(book, question, prices, pinned)
    opened = open_prices(question, prices, pinned)
    if not isinstance(thing, tuple) or len(thing) != 4:
        return False
    first, steps, amounts, papers = thing
    if not are_open_rows(book, opened, pinned, first) or not _are_steps(book, opened, pinned, steps):
        return False
    if not _is_order(question, opened, first, steps):
        return False
    if not are_open_amounts(book, question, opened, pinned, {}, price_of(opened, first), amounts):
        return False
    order = Order(first, steps)
    cuts = [as_keys(order.cut(chosen)) for chosen in _closed_sets(steps)]
    made = _open_rows_of_ways(book, question, opened, pinned, first[0][0])
    # The question holds, as a way carries something, so that a cut of rows of one piece cuts this piece.
    if not all([any([pair in cut for pair in rows]) for cut in cuts for rows in made]):
        return False
    claims = _claims_of(first, steps, sorted({pair for rows in made for pair in rows}))
    return _are_papers(book, question, prices, pinned, claims, papers)


def _open_rows_of_ways(book, question, opened, pinned, table):
    """Return for each way of the piece with a table the list of its open rows; no piece may be too large."""
    held = as_keys(held_rows(pinned))
    parts = [part_of(question, piece) for piece in pieces(question)]
    found = [(part, ways(book, part)) for part in parts]
    return [open_rows(part, opened, way, held) for part, some in found if table in dict(part[1]) for way in some]


def _are_steps(book, opened, pinned, thing):
    """Return whether any object is a tuple of steps, each with the numbers of lesser steps, ascending."""
    if not isinstance(thing, tuple) or not all([isinstance(step, tuple) and len(step) == 3 for step in thing]):
        return False
    for number, (left, come, ahead) in enumerate(thing):
        if not are_open_rows(book, opened, pinned, left) or not are_open_rows(book, opened, pinned, come):
            return False
        if not isinstance(ahead, tuple) or not all([is_integer(other) and 0 <= other < number for other in ahead]):
            return False
        if not left or not come or not rises(ahead):
            return False
    return True


def _is_order(question, opened, first, steps):
    """Return whether steps of open rows are as an order's certificate asks, but for the cuts to which they lead."""
    rows = list(first) + [pair for _, come, _ in steps for pair in come]
    left = [pair for leaving, _, _ in steps for pair in leaving]
    if len(set(rows)) < len(rows) or len(set(left)) < len(left) or not _is_of_one_piece(question, rows):
        return False
    for leaving, come, ahead in steps:
        there = list(first) + [pair for other in ahead for pair in steps[other][1]]
        if not all([pair in there for pair in leaving]) or price_of(opened, leaving) != price_of(opened, come):
            return False
        if not all([before in ahead for other in ahead for before in steps[other][2]]):
            return False
    return True


def _is_of_one_piece(question, rows):
    """Return whether there are rows, and all have tables of the same piece."""
    found = [piece for piece in pieces(question) if any([table in piece for table, _ in rows])]
    return len(found) == 1


def _are_papers(book, question, prices, pinned, claims, thing):
    """Return whether any object is a tuple of these claims, in this order, each with a certificate."""
    if not isinstance(thing, tuple) or len(thing) != len(claims):
        return False
    if not all([isinstance(paper, tuple) and len(paper) == 2 for paper in thing]):
        return False
    if not all([paper[0] == claim for paper, claim in zip(thing, claims)]):
        return False
    return all([shows_claim(book, question, prices, pinned, claim, paper) for claim, paper in thing])


def cuts_between(book, question, prices, pinned, one, other):
    """Return (nearer, farther) of two cuts of one piece."""
    need_pinned(book, question, prices, pinned)
    opened = open_prices(question, prices, pinned)
    lines = piece_lines(question, opened, held_rows(pinned))
    if not are_open_rows(book, opened, pinned, one) or not are_open_rows(book, opened, pinned, other):
        raise NoRow("these are no two ascending tuples of open rows")
    if not one or not other or not _is_of_one_piece(question, one + other):
        raise NoRow("the cuts are not of one and the same piece")
    place = [at for at, piece in enumerate(pieces(question)) if one[0][0] in piece][0]
    part = part_of(question, pieces(question)[place])
    if has_way(without_rows(book, one), part) or has_way(without_rows(book, other), part):
        raise NoRow("a way of the piece is left")
    made = [rows_of(part, way) for way in ways(book, part)]
    return _nearer_and_farther(made, lines[place], one, other)


def _nearer_and_farther(made, line, one, other):
    """Return both for two cuts of the ways whose rows are these."""
    before_one, before_other = _rows_ahead(made, line, one), _rows_ahead(made, line, other)
    both = [pair for pair in one if pair in other]
    nearer = [pair for pair in one if pair in before_other] + [pair for pair in other if pair in before_one] + both
    rest = [pair for pair in one if pair not in before_other] + [pair for pair in other if pair not in before_one]
    return tuple(sorted(nearer)), tuple(sorted(set(rest)))


def _rows_ahead(made, line, cut):
    """Return a dict with the rows that lie ahead of a cut as keys."""
    ahead = {}
    for rows in made:
        pairs = [pair for table in line for pair in rows if pair[0] == table]
        places = [at for at, pair in enumerate(pairs) if pair in cut]
        ahead.update({pair: True for pair in pairs[:places[0]]})
    return ahead
