import copy
import itertools
import unittest

import references
import surveys
from answercut import orders as module
from answercut.claims import about_row, about_rows
from answercut.errors import NoLine, NoPrice, NoQuestion, NoRow, TooMany
from answercut.lines import shows_triad
from answercut.nets import least_cut
from answercut.orders import Order, cuts_between, least_cuts, order_papers, orders, shows_order
from changes import some_changes
from helpers import keeps_arguments, raised
from oddities import ANY_OBJECTS, NEVER_RIGHT, shown

ONES, PAIRS = tuple((k,) for k in (1, 2, 3)), ((1, 1), (1, 2), (2, 1), (2, 3), (3, 4))
BOOK = {
    "a": (1, ONES), "m": (2, PAIRS), "b": (1, ONES + ((4,),)), "n": (2, ((1, 1), (2, 2), (3, 3), (4, 1))),
    "c": (1, ONES),
}
QUESTION = ((), (("a", ("x",)), ("m", ("x", "y")), ("b", ("y",)), ("n", ("y", "z")), ("c", ("z",))))
PRICES = {"a": 1, "m": None, "b": 2, "n": None, "c": 1}
SIXTY = tuple((k,) for k in range(60))
LARGE = {"a": (1, SIXTY), "b": (1, SIXTY), "c": (2, ((0, 0),)), "d": (1, ((1,),)), "e": (1, ((0,),))}
LARGE_ATOMS = (("a", ("x",)), ("b", ("y",)), ("c", ("x", "y")))
TRIANGLE = ((), (("r", ("p", "q")), ("s", ("q", "w")), ("t", ("w", "p"))))
TRIANGLE_BOOK = {table: (2, ((1, 1),)) for table in "rst"}
EACH_ONE = {"r": 1, "s": 1, "t": 1}


def net(tables, needs):
    """Tables a, m, b as named: a step for each of needs leads from row k of a to row k of b, behind those it needs."""
    a, m, b = tables
    rows = tuple((k,) for k in range(len(needs)))
    joined = sorted({(k, k) for k in range(len(needs))} | {(k, other) for k,
        some in enumerate(needs) for other in some})
    return {a: (1, rows), m: (2, tuple(joined)), b: (1, rows)}


def net_atoms(tables, names):
    a, m, b = tables
    x, y = names
    return (a, (x,)), (m, (x, y)), (b, (y,))


def net_prices(tables, price=1):
    a, m, b = tables
    return {a: price, m: None, b: price}


def chains(*sizes):
    """For net: chains of steps, the product of their sizes + 1 closed sets."""
    needs = []
    for size in sizes:
        start = len(needs)
        needs += [(start + at - 1,) if at else () for at in range(size)]
    return needs


def with_last(needs):
    """For net: a step more behind all others, one closed set more."""
    return needs + [tuple(range(len(needs)))]


def papers_of(case, first, steps):
    """The papers for the claims of point 27, or None if one of these is false."""
    papers = []
    for claim in surveys.claims_of(*case, first, steps):
        told = about_row(*case, claim[1]) if len(claim) == 2 else about_rows(*case, *claim[1:])
        papers += [each for each in told if each[0] == claim]
        if papers[-1:] == [] or papers[-1][0] != claim:
            return None
    return tuple(papers)


def turned(order):
    """The order from the farthest cut back."""
    first, steps = order.plain()
    last = len(steps) - 1
    behind = [tuple(last - other for other in range(last, -1, -1) if k in steps[other][2]) for k in range(len(steps))]
    return order.farthest(), tuple((steps[k][1], steps[k][0], behind[k]) for k in range(last, -1, -1))


class InterfaceTest(unittest.TestCase):
    def test_all_is_defined_in_this_file(self):
        told = (Order, cuts_between, least_cuts, order_papers, orders, shows_order)
        self.assertEqual({each.__module__ for each in told}, {module.__name__})
        for name in ("plain", "cut", "farthest", "cuts", "__len__", "__eq__", "__init__"):
            self.assertIn(name, vars(Order))

    def test_example(self):
        order = orders(BOOK, QUESTION, PRICES, None)[0]
        shown_order = order.plain() + order_papers(BOOK, QUESTION, PRICES, None, order)
        self.assertIs(shows_order(BOOK, QUESTION, PRICES, None, shown_order), True)
        a, c = [[(table, (k,)) for k in (1, 2, 3)] for table in "ac"]
        steps = (((a[2],), (c[0],), ()), ((a[0],), (c[1],), (0,)), ((a[1],), (c[2],), (0,)))
        self.assertEqual(order.plain(), (tuple(a), steps))
        self.assertEqual(len(order), 5)
        one, other = (a[1], c[0], c[1]), (a[0], c[0], c[2])
        self.assertEqual(cuts_between(BOOK, QUESTION, PRICES, None, one, other)[0], (a[0], a[1], c[0]))


class OrderTest(unittest.TestCase):
    A, B, C, D = ("a", (1,)), ("b", (2, 2)), ("c", (3,)), ("d", (0,))

    def test_no_steps(self):
        for first in ((), (self.A,), (self.A, self.B)):
            order = Order(first, ())
            self.assertEqual(order.plain(), (first, ()))
            self.assertEqual([order.cut([]), order.farthest(), order.cuts(), len(order)], [first, first, [first], 1])

    def test_by_hand(self):
        steps = (((self.D,), (self.B,), ()), ((self.A,), (self.C,), ()), ((self.B, self.C), (("a", (0,)),), (0, 1)))
        order = Order((self.A, self.D), steps)
        self.assertEqual(order.plain(), ((self.A, self.D), steps))
        self.assertEqual(order.cut([0]), (self.A, self.B))
        self.assertEqual(order.cut([1, 0]), order.cut([0, 1]))
        self.assertEqual(order.cut([1, 0]), (self.B, self.C))
        self.assertEqual(order.farthest(), (("a", (0,)),))
        cuts = [(self.A, self.D), (self.A, self.B), (self.C, self.D), (self.B, self.C), (("a", (0,)),)]
        self.assertEqual((order.cuts(), len(order)), (cuts, 5))

    def test_steps_in_any_order_give_the_same_cuts(self):
        steps = (((self.A,), (self.C,), ()), ((self.D,), (self.B,), ()), ((self.B, self.C), (("a", (0,)),), (0, 1)))
        order = Order((self.A, self.D), steps)
        self.assertEqual(order.cuts(), [
            (self.A, self.D), (self.A, self.B), (self.C, self.D), (self.B, self.C), (("a", (0,)),)
        ])

    def test_against_all_sets(self):
        for number in range(60):
            source = references.source_of(number)
            steps = []
            for k in range(source.randint(0, 7)):
                ahead = {other for other in range(k) if source.random() < 0.3}
                ahead |= {more for other in ahead for more in steps[other][2]}
                steps.append(((("a", (k,)),), (("b", (9 - k,)),), tuple(sorted(ahead))))
            first = tuple(("a", (k,)) for k in range(len(steps)))
            order = Order(first, tuple(steps))
            told = [(len(chosen), surveys.cut_of(first, steps, chosen)) for chosen in surveys.closed_sets(steps)]
            self.assertEqual(order.cuts(), [cut for _, cut in sorted(told)])
            self.assertEqual(len(order), len(told))
            for chosen in surveys.closed_sets(steps):
                self.assertEqual(order.cut(list(chosen)), surveys.cut_of(first, steps, chosen))

    def many(self, needs):
        steps = tuple(((("a", (k,)),), (("b", (k,)),), tuple(some)) for k, some in enumerate(needs))
        return Order(tuple(("a", (k,)) for k in range(len(needs))), steps)

    def test_two_hundred(self):
        closed = [(), (0,), (0, 1), (0, 1, 2), (0, 1, 2, 3), (0, 1, 2, 3, 4), (0, 1, 2, 3, 4, 5)]
        chain = [tuple(range(k)) for k in range(199)]
        for needs in (chain, closed + [(), (7,), (7, 8), (7, 8, 9), (), (11,), (11, 12), (11, 12, 13)]):
            order = self.many(needs)
            self.assertEqual((len(order), len(order.cuts())), (200, 200))
            for more in (self.many(list(needs) + [tuple(range(len(needs)))]), self.many(list(needs) + [()])):
                self.assertEqual(raised(len, more), (TooMany, {"limit": 200}))
                self.assertEqual(raised(more.cuts), (TooMany, {"limit": 200}))
                self.assertEqual(len(more.farthest()), len(needs) + 1)
                self.assertEqual(more.cut([]), more.plain()[0])
        self.assertEqual(raised(len, self.many([()] * 300)), (TooMany, {"limit": 200}))

    def test_equality(self):
        step = ((self.A,), (self.B,), ())
        order = Order((self.A,), (step,))
        self.assertTrue(order == Order((self.A,), (step,)))
        self.assertFalse(order != Order((self.A,), (step,)))
        for other in (Order((self.B,), (step,)), Order((self.A,), ()), Order((self.A,), (step, step)), None, (),
                order.plain()):
            self.assertFalse(order == other)
            self.assertTrue(order != other)
        for thing in ANY_OBJECTS:
            self.assertFalse(order == thing)


class AllCutsTest(unittest.TestCase):
    """Against all least cuts of open rows, found by trying all sets."""

    def check(self, book, question, prices, pinned):
        case = book, question, prices, pinned
        price, cuts = surveys.all_least(*case)
        found = orders(*case)
        if not price:
            self.assertEqual(found, [], case)
            self.assertEqual(least_cuts(*case), [] if price is None else [()])
            return found
        self.assertEqual(sorted(least_cuts(*case)), sorted(cuts), case)
        least = []
        for piece in references.pieces(question):
            part = references.part_of(question, piece)
            tables = tuple(table for table in surveys.open_tables(question, prices, pinned) if table in piece)
            cost, some = references.least_cuts(book, part, prices, pinned, tables)
            if cost == price:
                least.append((part, references.lines(question, tables)[0], some))
        self.assertEqual(len(found), len(least))
        told = []
        for order, (part, line, some) in zip(found, least):
            self.order(case, order, part, line, some)
            told += order.cuts()
        self.assertEqual(least_cuts(*case), told)
        return found

    def order(self, case, order, part, line, cuts):
        first, steps = order.plain()
        self.assertIs(type(order), Order)
        self.assertEqual(first, surveys.nearest_of(case[0], part, line, cuts))
        self.assertTrue(surveys.is_order(*case, first, steps), case)
        listed = [(len(chosen), surveys.cut_of(first, steps, chosen)) for chosen in surveys.closed_sets(steps)]
        self.assertEqual([cut for _, cut in sorted(listed)], order.cuts())
        self.assertEqual(sorted(order.cuts()), sorted(cuts), case)
        self.assertEqual(len(order), len(cuts))
        # As many steps as there can be: as the longest chain of cuts, each farther than the one ahead of it.
        ahead = surveys.ahead_sets(case[0], part, line, cuts)
        longest = {}
        for at in sorted(range(len(cuts)), key=lambda at: len(ahead[at])):
            longest[at] = max([longest[other] + 1 for other in longest if ahead[other] < ahead[at]], default=0)
        self.assertEqual(len(steps), max(longest.values()))
        self.assertEqual([(len(step[2]), step[0]) for step in steps], sorted((len(step[2]), step[0]) for step in steps))
        self.assertEqual(order.farthest(), cuts[max(longest, key=lambda at: longest[at])])

    def test_small_books(self):
        kinds = set()
        for _, *case in surveys.cases(41000, 700, 5):
            found = self.check(*case)
            kinds.add((len(found), max([len(order.plain()[1]) for order in found], default=0)))
        self.assertGreater(len(kinds), 6)
        self.assertGreaterEqual(max(steps for _, steps in kinds), 2)

    def test_prices_of_one_with_everything_open(self):
        steps = []
        for source, book, question, prices, pinned in surveys.cases(44000, 500, 4, 6, 3):
            ones = {table: 1 for table in prices}
            if surveys.has_lines(question, ones, ()) and len(references.loose_pairs(book, question, ones)) < 15:
                steps += [len(order.plain()[1]) for order in self.check(book, question, ones, ())]
        self.assertGreater(len([many for many in steps if many > 2]), 3)

    def test_steps_that_come_only_through_others(self):
        for number in range(40):
            source = references.source_of(number)
            many = source.randint(1, 6)
            needs = [tuple(other for other in range(many) if source.random() < 0.25) for _ in range(many)]
            book = net("amb", needs)
            question = (), net_atoms("amb", "xy")
            for tables in (question[1], question[1][::-1]):
                self.check(book, ((), tables), net_prices("amb"), source.choice((None, ())))

    def test_chain(self):
        order = orders(net("amb", chains(4)), ((), net_atoms("amb", "xy")), net_prices("amb", 7), None)[0]
        self.assertEqual([step[2] for step in order.plain()[1]], [(), (0,), (0, 1), (0, 1, 2)])
        self.assertEqual([step[0][0][1] for step in order.plain()[1]], [(0,), (1,), (2,), (3,)])

    def test_numbers_of_the_steps(self):
        # 3 behind 0; 1 and 2 on their own: by how many go ahead, then by the rows that leave.
        order = orders(net("amb", [(3,), (), (), ()]), ((), net_atoms("amb", "xy")), net_prices("amb"), None)[0]
        told = [(step[0][0][1][0], step[2]) for step in order.plain()[1]]
        self.assertEqual(told, [(1, ()), (2, ()), (3, ()), (0, (2,))])

    def test_several_pieces(self):
        book = {**net("amb", chains(2, 1)), **net("cnd", chains(1))}
        question = (), net_atoms("amb", "xy") + net_atoms("cnd", "zw")
        prices = {**net_prices("amb"), **net_prices("cnd")}
        self.assertEqual([len(order) for order in self.check(book, question, {**prices, "c": 3, "d": 3}, None)], [6, 2])
        self.assertEqual([len(order) for order in self.check(book, question, {**prices, "c": 2, "d": 3}, ())], [1])
        self.assertEqual([len(order) for order in self.check(book, question, {**prices, "c": 4, "d": 4}, ())], [6])
        self.assertEqual([len(order) for order in self.check(book, question, {**prices, "c": None, "d": None}, ())],
            [6])

    def test_a_way_that_stands_and_no_way(self):
        self.assertEqual(orders(BOOK, QUESTION, dict.fromkeys("ambnc"), None), [])
        self.assertEqual(least_cuts(BOOK, QUESTION, dict.fromkeys("ambnc"), ()), [])
        none = {**BOOK, "b": (1, ((9,),))}
        self.assertEqual((orders(none, QUESTION, PRICES, None), least_cuts(none, QUESTION, PRICES, None)), ([], [()]))

    def test_two_hundred(self):
        question, prices = ((), net_atoms("amb", "xy")), net_prices("amb")
        needs = chains(7, 4, 4)
        for pinned in (None, ()):
            case = net("amb", needs), question, prices, pinned
            self.assertEqual(len(least_cuts(*case)), 200)
            self.assertEqual(len(set(least_cuts(*case))), 200)
            case = net("amb", with_last(needs)), question, prices, pinned
            self.assertEqual(raised(least_cuts, *case), (TooMany, {"limit": 200}))
            order = orders(*case)[0]
            self.assertEqual(len(order.plain()[1]), 16)
            self.assertEqual(raised(len, order), (TooMany, {"limit": 200}))

    def test_two_hundred_together(self):
        question = (), net_atoms("amb", "xy") + net_atoms("cnd", "zw")
        needs = chains(9, 9)
        for more, many in ((needs, 200), (with_last(needs), None)):
            book = {**net("amb", needs), **net("cnd", more)}
            each = len(needs) * len(more)
            prices = {**net_prices("amb", each // len(needs)), **net_prices("cnd", each // len(more))}
            if many:
                self.assertEqual(len(set(least_cuts(book, question, prices, None))), 200)
            else:
                self.assertEqual(raised(least_cuts, book, question, prices, None), (TooMany, {"limit": 200}))
            self.assertEqual(len(orders(book, question, prices, None)), 2)

    def test_sixty_steps(self):
        order = orders(net("amb", [()] * 60), ((), net_atoms("amb", "xy")), net_prices("amb"), None)[0]
        self.assertEqual(len(order.plain()[1]), 60)
        self.assertEqual(raised(order.cuts), (TooMany, {"limit": 200}))
        self.assertEqual(order.farthest(), tuple(("b", (k,)) for k in range(60)))

    def test_all_as_it_was(self):
        for function in (orders, least_cuts):
            keeps_arguments(self, function, BOOK, QUESTION, PRICES, None)
            keeps_arguments(self, function, BOOK, QUESTION, PRICES, ())
        book, prices = copy.deepcopy(BOOK), dict(PRICES)
        order = orders(book, QUESTION, prices, None)[0]
        told = order.plain()
        book["a"], prices["a"] = (1, ()), 9
        self.assertEqual(order.plain(), told)
        found = orders(BOOK, QUESTION, PRICES, None)
        found.clear()
        order.cuts().clear()
        self.assertEqual(len(orders(BOOK, QUESTION, PRICES, None)), 1)


class ErrorsTest(unittest.TestCase):
    def test_as_least_cut(self):
        for thing in NEVER_RIGHT:
            for arguments in ((LARGE, thing, None, "?"), (LARGE, ((), LARGE_ATOMS), thing, "?")):
                self.both(raised(least_cut, *arguments), *arguments)
            if thing is not None:
                self.both((NoRow, {}), TRIANGLE_BOOK, TRIANGLE, EACH_ONE, thing)
        self.both((NoQuestion, {}), BOOK, (("x",), QUESTION[1]), PRICES, None)
        self.both((NoPrice, {}), LARGE, ((), LARGE_ATOMS), {"a": 1, "b": 1}, None)
        self.both((TooMany, {"limit": 2000}), LARGE, ((), LARGE_ATOMS), {"a": 1, "b": 1, "c": None}, None)

    def both(self, error, *arguments):
        self.assertEqual(raised(orders, *arguments), error)
        self.assertEqual(raised(least_cuts, *arguments), error)

    def test_no_line(self):
        book = {**LARGE, **TRIANGLE_BOOK}
        question = (), LARGE_ATOMS + TRIANGLE[1]
        prices = {"a": 1, "b": 1, "c": None, **EACH_ONE}
        for function in (orders, least_cuts):
            kind, fields = raised(function, book, question, prices, None)
            self.assertEqual((kind, fields["paper"][0]), (NoLine, ("r", "s", "t")))
            self.assertTrue(shows_triad(question, ("r", "s", "t"), fields["paper"]))

    def test_only_pieces_are_too_large(self):
        book = {table: (1, SIXTY) for table in "ab"}
        question = (), (("a", ("x",)), ("b", ("y",)))
        self.assertEqual(len(least_cuts(book, question, {"a": 1, "b": 2}, None)), 1)


class PapersTest(unittest.TestCase):
    def check(self, case, order):
        told = order_papers(*case, order)
        self.assertEqual((type(told), len(told)), (tuple, 2))
        first, steps = order.plain()
        self.assertEqual([claim for claim, _ in told[1]], surveys.claims_of(*case, first, steps))
        self.assertTrue(surveys.judge_order(*case, order.plain() + told), case)
        self.assertIs(shows_order(*case, order.plain() + told), True)

    def test_small_books(self):
        claims = set()
        for _, *case in surveys.cases(47000, 400, 5):
            for order in orders(*case):
                self.check(case, order)
                claims |= {claim[0] for claim, _ in order_papers(*case, order)[1]}
        self.assertEqual(claims, {"none", "never both"})

    def test_steps_ahead(self):
        for needs in (chains(4), chains(2, 2), with_last(chains(2, 1)), [(1, 2), (3,), (3,), ()]):
            for pinned in (None, ()):
                case = net("amb", needs), ((), net_atoms("amb", "xy")), net_prices("amb", 2), pinned
                self.check(case, orders(*case)[0])

    def test_pieces_with_the_same_price(self):
        book = {**net("amb", chains(2)), **net("cnd", chains(1, 1))}
        question = (), net_atoms("amb", "xy") + net_atoms("cnd", "zw")
        case = book, question, {**net_prices("amb"), **net_prices("cnd")}, None
        for order in orders(*case):
            self.check(case, order)

    def test_arguments_are_kept(self):
        order = orders(BOOK, QUESTION, PRICES, None)[0]
        told = order.plain()
        keeps_arguments(self, lambda *case: order_papers(*case, order), BOOK, QUESTION, PRICES, None)
        self.assertEqual(order.plain(), told)


class JudgeTest(unittest.TestCase):
    def agree(self, case, thing):
        """Ask both judges; what is taken tells all least cuts of its piece, each once."""
        expected = surveys.judge_order(*case, thing)
        self.assertIs(shows_order(*case, thing), expected, (case, shown(thing)))
        if expected:
            part = surveys.piece_with(case[1], thing[0][0][0])
            tables = [table for table in surveys.open_tables(*case[1:]) if table in dict(part[1])]
            _, cuts = references.least_cuts(case[0], part, case[2], case[3], tables)
            self.assertEqual(sorted(Order(*thing[:2]).cuts()), sorted(cuts), case)
        return expected

    def some_cases(self):
        for source, *case in surveys.cases(51000, 260, 4, 6):
            found = [order for order in orders(*case) if len(order.plain()[1]) < 6]
            if found and (found[0].plain()[1] or source.random() < 0.1):
                yield source, case, source.choice(found)
        for number, needs in enumerate((chains(3), chains(1, 2), [(1, 2), (3,), (3,), ()], chains(2, 1))):
            source = references.source_of(number)
            case = [net("amb", needs), ((), net_atoms("amb", "xy")), net_prices("amb", 2), source.choice((None, ()))]
            yield source, case, orders(*case)[0]

    def test_changed_anywhere(self):
        many = taken = 0
        for source, case, order in self.some_cases():
            thing = order.plain() + order_papers(*case, order)
            many += 1
            for other in some_changes(source, thing, 60):
                taken += self.agree(case, other)
            for at, part in enumerate(thing):
                for other in some_changes(source, part, 12):
                    taken += self.agree(case, thing[:at] + (other,) + thing[at + 1:])
        self.assertGreater(many, 15)
        self.assertGreater(taken, 3)

    def test_other_steps(self):
        """Steps left out, twice, joined, in other orders, each with papers for what is then claimed."""
        taken = 0
        for source, case, order in self.some_cases():
            first, steps = order.plain()
            amounts = order_papers(*case, order)[0]
            for other in self.others(source, steps):
                if not surveys.is_order(*case, first, other):
                    self.assertIs(shows_order(*case, (first, other, amounts, ())), False)
                    continue
                papers = papers_of(case, first, other)
                taken += self.agree(case, (first, other, amounts, () if papers is None else papers))
        self.assertGreater(taken, 5)

    def others(self, source, steps):
        for order in itertools.permutations(range(len(steps))):
            if len(steps) < 5:
                places = {old: new for new, old in enumerate(order)}
                yield tuple(
                    (steps[old][0], steps[old][1], tuple(sorted(places[ahead] for ahead in steps[old][2])))
                    for old in order
                )
        for at in range(len(steps)):
            yield steps[:at] + steps[at + 1:]
            yield steps[:at + 1] + steps[at:]
            yield steps[:at]
        for one, other in itertools.combinations(range(len(steps)), 2):
            joined = tuple(tuple(sorted(steps[one][side] + steps[other][side])) for side in (0, 1))
            ahead = tuple(sorted(set(steps[one][2]) | set(steps[other][2]) - {one}))
            yield steps[:one] + ((*joined, ahead),) + steps[one + 1:other] + steps[other + 1:]

    def test_from_the_farthest_cut_back(self):
        many = 0
        for _, case, order in self.some_cases():
            first, steps = turned(order)
            self.assertTrue(surveys.is_order(*case, first, steps), case)
            papers = papers_of(case, first, steps)
            many += self.agree(case, (first, steps, order_papers(*case, order)[0], papers))
        self.assertGreater(many, 15)

    def test_from_a_cut_in_the_middle(self):
        case = net("amb", [(), ()]), ((), net_atoms("amb", "xy")), net_prices("amb"), None
        a, b = [[(table, (k,)) for k in (0, 1)] for table in "ab"]
        first, steps = (a[1], b[0]), (((a[1],), (b[1],), ()), ((b[0],), (a[0],), ()))
        amounts = order_papers(*case, orders(*case)[0])[0]
        self.assertTrue(self.agree(case, (first, steps, amounts, papers_of(case, first, steps))))
        # Without the second step a row is in no cut that is told, and yet in a least one.
        self.assertIsNone(papers_of(case, first, steps[:1]))

    def small(self, prices, **tables):
        """A question a(x), b(x), .. with the pinned rows (), and the tables' rows by their names."""
        book = {table: (1, tuple((row,) for row in rows)) for table, rows in tables.items()}
        return book, ((), tuple((table, ("x",)) for table in tables)), dict(zip(tables, prices)), ()

    def refused(self, case, first, steps, amounts):
        """Nothing but what is asked of the steps and cuts is wrong: all claims are shown."""
        papers = papers_of(case, first, steps)
        self.assertIsNotNone(papers)
        self.assertTrue(all(surveys.judge_claim(*case, *paper) for paper in papers))
        self.assertFalse(self.agree(case, (first, steps, amounts, papers)))

    def test_each_closed_set_leads_to_a_cut(self):
        book = {"a": (1, ((0,),)), "b": (2, ((0, 0), (0, 1)))}
        case = book, ((), (("a", ("x",)), ("b", ("x", "y")))), {"a": 1, "b": 1}, ()
        a, b = ("a", (0,)), ("b", (0, 0))
        self.refused(case, (a,), (((a,), (b,), ()),), (((0, 0), 1),))
        # Nor is the first cut one, if it lacks a row and has one of no way.
        case = self.small((1,), a=(0, 1))
        self.assertFalse(self.agree(case, ((("a", (0,)),), (), (((0,), 1),), ())))

    def test_a_row_leaves_once(self):
        case = self.small((1, 1, 1), a=(0,), b=(0,), c=(0,))
        a, b, c = [(table, (0,)) for table in "abc"]
        self.refused(case, (a,), (((a,), (b,), ()), ((a,), (c,), ())), (((0,), 1),))
        self.refused(case, (a,), (((a,), (b,), ()), ((a,), (c,), (0,))), (((0,), 1),))
        steps = ((a,), (b,), ()), ((b,), (c,), (0,))
        self.assertTrue(self.agree(case, ((a,), steps, (((0,), 1),), papers_of(case, (a,), steps))))

    def test_a_row_that_leaves_is_there(self):
        case = self.small((1, 2), a=(0, 9), b=(0,))
        a, none, b = ("a", (0,)), ("a", (9,)), ("b", (0,))
        self.refused(case, (a,), (((a, none), (b,), ()),), (((0,), 1),))
        case = self.small((1, 1, 1), a=(0,), b=(0,), c=(0,))
        a, b, c = [(table, (0,)) for table in "abc"]
        # b comes by a step that is not ahead of the one by which it leaves.
        self.refused(case, (a,), (((a,), (b,), ()), ((b,), (c,), ())), (((0,), 1),))

    def test_all_steps_ahead_are_told(self):
        case = self.small((1, 1, 1, 1), a=(0,), b=(0,), c=(0,), d=(0,))
        a, b, c, d = [(table, (0,)) for table in "abcd"]
        self.refused(case, (a,), (((a,), (b,), ()), ((b,), (c,), (0,)), ((c,), (d,), (1,))), (((0,), 1),))

    def test_steps_without_rows_and_odd_numbers(self):
        case = self.small((1, 1), a=(0,), b=(0,))
        a, b = ("a", (0,)), ("b", (0,))
        step = ((a,), (b,), ())
        papers = papers_of(case, (a,), (step,))
        self.assertTrue(self.agree(case, ((a,), (step,), (((0,), 1),), papers)))
        empty = (), (), ()
        for steps in ((step, empty), (empty, step), (((a,), (b,), (0,)),), (((a,), (b,), (-1,)),),
                (step, ((), (), (0, 0)))):
            for some in (papers, papers_of(case, (a,), steps)):
                self.assertFalse(self.agree(case, ((a,), steps, (((0,), 1),), some)), steps)
        for steps in ((((a,), (), ()),), (((), (b,), ()),)):
            self.assertIs(shows_order(*case, ((a,), steps, (((0,), 1),), papers)), False)

    def test_the_numbers_of_the_steps_ahead_rise(self):
        case = net("amb", [(), (), (0, 1)]), ((), net_atoms("amb", "xy")), net_prices("amb"), None
        order = orders(*case)[0]
        first, steps = order.plain()
        amounts = order_papers(*case, order)[0]
        self.assertEqual(steps[2][2], (0, 1))
        for ahead in ((0, 1), (1, 0), (0, 1, 1), (0, 0, 1), (0, 1, 2), (0, 2), (-3, -2), (0, True), (False, 1), [0, 1]):
            other = steps[:2] + ((*steps[2][:2], ahead),)
            papers = papers_of(case, first, other)
            self.assertIs(self.agree(case, (first, other, amounts, papers or ())), references.same(ahead, (0, 1)), ahead)

    def test_rows_of_two_pieces_and_unequal_prices(self):
        book = {"a": (1, ((1,),)), "b": (1, ((1,),)), "c": (1, ((1,),)), "d": (1, ((1,),))}
        question = (), (("a", ("x",)), ("b", ("x",)), ("c", ("y",)), ("d", ("y",)))
        a, b, c, d = [(table, (1,)) for table in "abcd"]
        case = book, question, dict.fromkeys("abcd", 1), ()
        amounts = (((1, 1), 1),)
        for first, steps in (((a,), (((a,), (c,), ()),)), ((a, c), (((a,), (b,), ()), ((c,), (d,), ()))),
                ((a,), (((a,), (b, c), ()),))):
            self.assertIs(shows_order(*case, (first, steps, amounts, ())), False)
        papers = papers_of(case, (a,), (((a,), (b,), ()),))
        self.assertTrue(self.agree(case, ((a,), (((a,), (b,), ()),), amounts, papers)))
        case = book, question, {"a": 1, "b": 2, "c": 3, "d": 3}, ()
        self.assertIs(shows_order(*case, ((a,), (((a,), (b,), ()),), amounts, papers)), False)

    def test_no_rows_at_all(self):
        book = {"a": (1, ((1,),)), "b": (1, ((2,),))}
        question = (), (("a", ("x",)), ("b", ("x",)))
        self.assertIs(shows_order(book, question, {"a": 1, "b": 1}, None, ((), (), (), ())), False)

    def test_any_objects(self):
        order = orders(BOOK, QUESTION, PRICES, None)[0]
        thing = order.plain() + order_papers(BOOK, QUESTION, PRICES, None, order)
        for other in ANY_OBJECTS + [order, (order, order, order, order), [*thing]]:
            self.assertIs(shows_order(BOOK, QUESTION, PRICES, None, other), False)
            for at in range(4):
                self.assertIs(shows_order(BOOK, QUESTION, PRICES, None, thing[:at] + (other,) + thing[at + 1:]), False)
                step = thing[1][0][:at] + (other,) + thing[1][0][at + 1:]
                same = other == () and at == 2
                self.assertIs(
                    shows_order(BOOK, QUESTION, PRICES, None, (thing[0], (step, *thing[1][1:]), *thing[2:])), same,
                    shown(other)
                )

    def test_errors(self):
        for thing in NEVER_RIGHT:
            self.assertEqual(raised(shows_order, LARGE, thing, None, "?", None), (NoQuestion, {}))
            self.assertEqual(raised(shows_order, LARGE, ((), LARGE_ATOMS), thing, "?", None), (NoPrice, {}))
            if thing is not None:
                self.assertEqual(raised(shows_order, BOOK, QUESTION, PRICES, thing, None), (NoRow, {}))
        self.assertIs(shows_order(TRIANGLE_BOOK, TRIANGLE, EACH_ONE, None, None), False)
        rows = (("r", (1, 1)),)
        self.assertIs(shows_order(TRIANGLE_BOOK, TRIANGLE, EACH_ONE, (), (rows, (), (((1, 1, 1), 1),), ())), False)

    def test_a_question_without_a_line(self):
        case = TRIANGLE_BOOK, TRIANGLE, {"r": 1, "s": 1, "t": 2}, ()
        r, s, t = [(table, (1, 1)) for table in "rst"]
        amounts = (((1, 1, 1), 1),)
        papers = (
            (("never both", s, r), (1, (r,), ())),
            (("none", t), (1, (r,), amounts)),
        )
        self.assertTrue(self.agree(case, ((r,), (((r,), (s,), ()),), amounts, papers)))

    def test_too_many(self):
        book = {**net("cnd", [()] * 8), **LARGE, "n": (2, tuple((k, k) for k in range(8))), "c": (1, SIXTY[:8]),
            "d": (1, SIXTY[:8])}
        question, prices = ((), net_atoms("cnd", "zw")), net_prices("cnd")
        both = (), net_atoms("cnd", "zw") + (("a", ("x",)), ("b", ("y",)), ("e", ("x", "y")))
        book["e"] = (2, ((0, 0),))
        dear = {**prices, "a": 9, "b": 9, "e": None}
        for asked, cost, end in ((question, prices, ()), (both, dear, (0, 0))):
            order = orders(book, question, prices, None)[0]
            first, steps = order.plain()
            # The names of the ways: w, (x, y,) z.
            amounts = tuple(((k, *end, k), 1) for k in range(8))
            too_many = (TooMany, {"limit": 200})
            for papers in (None, (), 7):
                self.assertEqual(raised(shows_order, book, asked, cost, None, (first, steps, amounts, papers)),
                    too_many)
            for wrong in (amounts[1:], amounts[::-1], None, tuple((way, 2) for way, _ in amounts)):
                self.assertIs(shows_order(book, asked, cost, None, (first, steps, wrong, ())), False)
            self.assertIs(shows_order(book, asked, cost, None, (first, steps + steps[:1], amounts, ())), False)
            self.assertIs(shows_order(book, asked, cost, None, (first[1:], steps, amounts, ())), False)
            large = raised(shows_order, book, asked, cost, None, (first, steps[:7], amounts, None))
            self.assertEqual(large, None if asked == question else (TooMany, {"limit": 2000}))
            self.assertIs(shows_order(book, question, prices, None, (first, steps[:7], amounts, None)),
                False) if not end else None
            self.assertIs(shows_order(book, asked, cost, None, (first, steps[:7], amounts[1:], None)), False)
            self.assertEqual(raised(shows_order, book, asked, cost, None, None), None)

    def test_arguments_are_kept(self):
        order = orders(BOOK, QUESTION, PRICES, None)[0]
        thing = order.plain() + order_papers(BOOK, QUESTION, PRICES, None, order)
        keeps_arguments(self, shows_order, BOOK, QUESTION, PRICES, None, thing)


class BetweenTest(unittest.TestCase):
    def expected(self, book, part, line, one, other):
        """Way by way."""
        made = [references.rows_of(part, way) for way in references.ways(book, part)]
        before_one, before_other = references.ahead_of(made, line, one), references.ahead_of(made, line, other)
        farther = {pair for pair in one if pair not in before_other} | {pair for pair in other if pair not in before_one}
        nearer = {pair for pair in one if pair in before_other} | {pair for pair in other if pair in before_one}
        return tuple(sorted(nearer | set(one) & set(other))), tuple(sorted(farther))

    def test_all_pairs_of_cuts(self):
        many = 0
        for source, book, question, prices, pinned in surveys.cases(53000, 250, 4, 4):
            for piece in references.pieces(question):
                part = references.part_of(question, piece)
                tables = tuple(table for table in surveys.open_tables(question, prices, pinned) if table in piece)
                pairs = [pair for pair in surveys.open_pairs(book, question, prices, pinned) if pair[0] in piece][:7]
                cuts = [
                    rows for rows in surveys.all_sets(pairs) if rows and not references.ways(references.lost(book,
                    rows), part)
                ]
                line = references.lines(question, tables)[0]
                for one, other in source.sample(list(itertools.product(cuts, cuts)), min(25, len(cuts) ** 2)):
                    told = cuts_between(book, question, prices, pinned, one, other)
                    self.assertEqual(told, self.expected(book, part, line, one, other))
                    for rows in told:
                        self.assertFalse(references.ways(references.lost(book, rows), part))
                    costs = [references.price_of(prices, rows) for rows in (one, other, *told)]
                    self.assertEqual(costs[0] + costs[1], costs[2] + costs[3])
                    many += one != other
        self.assertGreater(many, 300)

    def test_two_least_cuts(self):
        for needs in (chains(2, 2), [(1, 2), (3,), (3,), ()]):
            case = net("amb", needs), ((), net_atoms("amb", "xy")), net_prices("amb"), None
            cuts = least_cuts(*case)
            for one in cuts:
                for other in cuts:
                    nearer, farther = cuts_between(*case, one, other)
                    self.assertIn(nearer, cuts)
                    self.assertIn(farther, cuts)
                    self.assertEqual(cuts_between(*case, other, one), (nearer, farther))

    def test_the_piece_alone_is_asked(self):
        # Behind the cut of a the ways of c are left; and the question does not hold, as b has no row.
        book = {"a": (1, ((1,),)), "b": (1, ()), "c": (1, ((1,), (2,)))}
        question = (), (("a", ("x",)), ("b", ("y",)), ("c", ("z",)))
        prices = {"a": 1, "b": 1, "c": 1}
        a, c = (("a", (1,)),), (("c", (1,)), ("c", (2,)))
        for cut in (a, c):
            self.assertEqual(cuts_between(book, question, prices, None, cut, cut), (cut, cut))
        self.assertEqual(raised(cuts_between, book, question, prices, None, c[:1], c), (NoRow, {}))

    def test_no_row(self):
        book = {**net("amb", chains(1)), "c": (1, ((1,),)), "d": (1, ((1,), (2,)))}
        question = (), net_atoms("amb", "xy") + (("c", ("z",)), ("d", ("z",)))
        prices = {**net_prices("amb"), "c": 1, "d": 1}
        case = book, question, prices, None
        right, far = (("a", (0,)),), (("b", (0,)),)
        self.assertEqual(cuts_between(*case, right, far), (right, far))
        wrong = [
            (("c", (1,)),), right + (("c", (1,)),), (("d", (1,)),), (("m", (0, 0)),), right + (("m", (0, 0)),), (),
            [("a", (0,))], (("a", (False,)),), right * 2, far + right, (("a", (1,)),), (["a", (0,)],), ("a", (0,)),
        ]
        for thing in wrong + ANY_OBJECTS:
            self.assertEqual(raised(cuts_between, *case, right, thing), (NoRow, {}), shown(thing))
            self.assertEqual(raised(cuts_between, *case, thing, right), (NoRow, {}), shown(thing))
        self.assertEqual(raised(cuts_between, book, question, prices, right, right, far), (NoRow, {}))
        # The empty tuple is none, though the piece has no way without it.
        none = {**book, "m": (2, ())}
        self.assertEqual(cuts_between(none, question, prices, None, right, far), ((), right + far))
        for one, other in ((right, ()), ((), right), ((), ())):
            self.assertEqual(raised(cuts_between, none, question, prices, None, one, other), (NoRow, {}))
        self.assertEqual(cuts_between(book, question, prices, right, far, far), (far, far))

    def test_errors_ahead(self):
        for thing in NEVER_RIGHT:
            self.assertEqual(raised(cuts_between, LARGE, thing, None, "?", 1, 1), (NoQuestion, {}))
            self.assertEqual(raised(cuts_between, LARGE, ((), LARGE_ATOMS), thing, "?", 1, 1), (NoPrice, {}))
            if thing is not None:
                self.assertEqual(raised(cuts_between, TRIANGLE_BOOK, TRIANGLE, EACH_ONE, thing, 1, 1), (NoRow, {}))
        kind, fields = raised(cuts_between, TRIANGLE_BOOK, TRIANGLE, EACH_ONE, None, None, None)
        self.assertEqual((kind, fields["paper"][0]), (NoLine, ("r", "s", "t")))

    def test_too_many_only_behind_all(self):
        question, prices = ((), LARGE_ATOMS + (("e", ("x",)),)), {"a": None, "b": 1, "c": None, "e": 1}
        case = LARGE, question, prices, None
        e, b = (("e", (0,)),), tuple(("b", row) for row in SIXTY)
        too_many = (TooMany, {"limit": 2000})
        self.assertEqual(raised(cuts_between, *case, e, e), too_many)
        self.assertEqual(raised(cuts_between, *case, e, b), too_many)
        self.assertEqual(raised(cuts_between, *case, b[:1], e), too_many)
        # A way is left: the row 0 of b is the one that has a way.
        self.assertEqual(raised(cuts_between, *case, b[1:], e), (NoRow, {}))
        self.assertEqual(raised(cuts_between, *case, e, b[1:]), (NoRow, {}))
        self.assertEqual(raised(cuts_between, *case, e, ()), (NoRow, {}))

    def test_a_way_that_is_left_of_very_many(self):
        rows = tuple((0, k) for k in range(60))
        book = {table: (2, rows) for table in "abcdef"}
        question = (), tuple((table, ("x", name)) for table, name in zip("abcdef", "pqrstu"))
        prices = dict.fromkeys("abcdef", 1)
        some = tuple(("a", row) for row in rows)
        self.assertEqual(raised(cuts_between, book, question, prices, (), some[:-1], some), (NoRow, {}))
        self.assertEqual(raised(cuts_between, book, question, prices, (), some, some), (TooMany, {"limit": 2000}))

    def test_only_the_piece_is_too_large(self):
        book = {**LARGE, "f": (1, ((1,),))}
        question, prices = ((), LARGE_ATOMS + (("f", ("z",)),)), {"a": 1, "b": 1, "c": None, "f": 1}
        f = (("f", (1,)),)
        self.assertEqual(cuts_between(book, question, prices, None, f, f), (f, f))

    def test_arguments_are_kept(self):
        one, other = (("a", (2,)), ("c", (1,)), ("c", (2,))), (("a", (1,)), ("c", (1,)), ("c", (3,)))
        keeps_arguments(self, cuts_between, BOOK, QUESTION, PRICES, None, one, other)


if __name__ == "__main__":
    unittest.main()
