import copy
import unittest
from fractions import Fraction

import surveys
from answercut import roofs
from answercut.errors import NoLine, NoPrice, NoQuestion, NoRow, TooMany
from answercut.lines import shows_triad
from answercut.nets import least_cut
from answercut.roofs import Roof, need_moving, roof, shows_roof
from changes import some_changes
from helpers import keeps_arguments, raised
from oddities import ANY_OBJECTS, NEVER_RIGHT, shown

BOOK = {"c": (2, ((1, 1),)), "a": (1, ((1,),)), "b": (3, ((1, 1, 1), (1, 1, 2)))}
QUESTION = ((), (("c", ("y", "v")), ("a", ("y",)), ("b", ("y", "v", "w"))))
MOVING = {"c": (1, 1), "a": (2, 0), "b": (1, 0)}
BIG = 10 ** 13
SIXTY = tuple((k,) for k in range(60))
LARGE = {"a": (1, SIXTY), "b": (1, SIXTY), "c": (2, ((0, 0),)), "d": (1, ((1,),)), "e": (1, ((0,),))}
LARGE_ATOMS = (("a", ("x",)), ("b", ("y",)), ("c", ("x", "y")), ("e", ("x",)))
TRIANGLE = ((), (("r", ("p", "q")), ("s", ("q", "w")), ("t", ("w", "p"))))
TRIANGLE_BOOK = {table: (2, ((1, 1),)) for table in "rst"}
EACH_ONE = {"r": (1, 1), "s": (1, 1), "t": (1, 1)}


def some_fractions(told):
    """Fractions at the beginnings of stretches, between them, ahead of them and far behind."""
    starts = [Fraction(*stretch[0]) for stretch in told[1]]
    between = [(one + other) / 2 for one, other in zip(starts, starts[1:])]
    return starts + between + [starts[-1] + 1, starts[-1] + 10 ** 20, Fraction(1, 10 ** 20), Fraction(1, 3),
        Fraction(5, 2)]


class InterfaceTest(unittest.TestCase):
    def test_all_is_defined_in_this_file(self):
        self.assertEqual({each.__module__ for each in (Roof, need_moving, roof, shows_roof)}, {roofs.__name__})
        for name in ("price_at", "cut_at", "front", "__len__", "__eq__", "__init__"):
            self.assertIn(name, vars(Roof))

    def test_example(self):
        told = roof(BOOK, QUESTION, MOVING, None)
        read = Roof(told[1])
        c, both = ("c", (1, 1)), (("b", (1, 1, 1)), ("b", (1, 1, 2)))
        self.assertEqual(told[1], (((0, 1), 1, 1, (c,)), ((1, 1), 2, 0, both)))
        self.assertEqual((len(read), read.price_at((1, 2)), read.cut_at((2, 2))), (2, (3, 2), both))
        self.assertIs(shows_roof(BOOK, QUESTION, MOVING, None, told), True)
        cut = least_cut(BOOK, QUESTION, {"c": 3, "a": 2, "b": 1}, None)
        self.assertEqual(cut[:3], ("cut", 2, (("a", (1,)),)))


class NeedTest(unittest.TestCase):
    QUESTION = ((), (("a", ("x",)), ("b", ("x",))))

    def test_right(self):
        for pair in (None, (0, 1), (1, 0), (BIG, BIG), (0, BIG), (BIG, 0)):
            self.assertIsNone(need_moving(self.QUESTION, {"b": pair, "a": (3, 4)}))

    def test_wrong(self):
        wrong = [
            (0, 0), (-1, 1), (1, -1), (BIG + 1, 0), (0, BIG + 1), (1,), (1, 1, 1), [1, 1], 1, True, (True, 1),
            (1, False),
            "11", (1, "1"), (None, 1), (1, None), ((1, 1),), (False, False),
        ]
        for thing in wrong + [thing for thing in NEVER_RIGHT if thing is not None]:
            self.assertEqual(raised(need_moving, self.QUESTION, {"a": (1, 1), "b": thing}), (NoPrice, {}), shown(thing))
            self.assertEqual(raised(need_moving, self.QUESTION, {"a": thing, "b": (1, 1)}), (NoPrice, {}), shown(thing))
        for thing in ANY_OBJECTS + [{"a": (1, 1)}, {"a": (1, 1), "b": None, "c": None}, {"a": (1, 1), "c": (1, 1)}]:
            self.assertEqual(raised(need_moving, self.QUESTION, thing), (NoPrice, {}), shown(thing))


class RoofTest(unittest.TestCase):
    def check(self, book, question, moving, pinned):
        case = book, question, moving, pinned
        told = roof(*case)
        self.assertIs(shows_roof(*case, told), True, case)
        self.assertTrue(surveys.judge_roof(*case, told), case)
        expected = surveys.envelope(*case)
        if expected is None:
            self.assertEqual((told[0], len(told)), ("stands", 2))
            return 0
        self.assertEqual((told[0], len(told)), ("roof", 3))
        self.assertEqual([stretch[:3] for stretch in told[1]], [(surveys.plain(t), a, b) for t, a, b in expected], case)
        starts = [t for t, _, _ in expected]
        for start, end, stretch in zip(starts, starts[1:] + [starts[-1] + 2], told[1]):
            for t in ((start + end) / 2, start + (end - start) / 100):
                self.assertEqual(stretch[3], surveys.told_at(*case, t)[1], case)
        self.read(case, told)
        return len(expected)

    def read(self, case, told):
        book, question, moving, pinned = case
        read = Roof(told[1])
        for t in some_fractions(told):
            price = surveys.least_at(*case, t)
            self.assertEqual(read.price_at(surveys.plain(t)), surveys.plain(price), case)
            over, under = surveys.plain(t)
            self.assertEqual(read.price_at((over * 6, under * 6)), surveys.plain(price))
            prices = {table: None if pair is None else pair[0] * under + pair[1] * over for table,
                pair in moving.items()}
            if 0 not in prices.values() and surveys.has_lines(question, prices, pinned) and max(
                [price for price in prices.values() if price is not None], default=0
            ) <= 10 ** 30:
                self.assertEqual(least_cut(book, question, prices, pinned)[1], price * under)

    def test_small_books(self):
        kinds = set()
        for _, *case in surveys.moving_cases(61000, 400):
            kinds.add(self.check(*case))
        for _, *case in surveys.moving_cases(66000, 500, 4, 5, 9):
            kinds.add(self.check(*case))
        self.assertGreaterEqual(kinds, {0, 1, 2, 3})

    def test_large_moving_prices(self):
        for _, *case in surveys.moving_cases(62000, 120, 4, 4, BIG):
            self.check(*case)

    def test_many_stretches(self):
        # Strands of a and b alone: the k-th row of a stands before k + 1 rows of b.
        many = 9
        book = {"a": (1, SIXTY[:many]), "b": (2, tuple((k, j) for k in range(many) for j in range(k + 1)))}
        question = (), (("a", ("x",)), ("b", ("x", "y")))
        told = roof(book, question, {"a": (0, 10), "b": (7, 0)}, None)
        self.assertEqual([stretch[0] for stretch in told[1]], [(0, 1)] + [(7 * k // gcd, 10 // gcd) for k, gcd in [
            (1, 1), (2, 2), (3, 1), (4, 2), (5, 5), (6, 2), (7, 1), (8, 2), (9, 1)
        ]])
        self.assertTrue(surveys.judge_roof(book, question, {"a": (0, 10), "b": (7, 0)}, None, told))
        self.assertIs(shows_roof(book, question, {"a": (0, 10), "b": (7, 0)}, None, told), True)

    def test_beginnings_close_together(self):
        # The roofs of three rows, whose prices meet where fractions of large integers differ least.
        book = {table: (1, ((1,),)) for table in "abc"}
        question = (), tuple((table, ("x",)) for table in "abc")
        for moving in (
            {"a": (0, BIG), "b": (BIG - 2, BIG - 1), "c": (BIG - 1, BIG - 2)},
            {"a": (0, BIG - 1), "b": (BIG - 1, 1), "c": (BIG, 0)},
            {"a": (1, BIG), "b": (2, BIG - 1), "c": (BIG, 0)},
            {"a": (BIG - 1, 1), "b": (BIG, 0), "c": (1, BIG)},
        ):
            for pinned in (None, ()):
                self.assertGreaterEqual(self.check(book, question, moving, pinned), 1)

    def test_all_sixty_rows_of_six_tables(self):
        book = {table: (1, SIXTY) for table in "abcdef"}
        question = (), tuple((table, ("x",)) for table in "abcdef")
        moving = {table: (BIG - k * k, k + 1) for k, table in enumerate("abcdef")}
        told = roof(book, question, moving, None)
        self.assertIs(shows_roof(book, question, moving, None, told), True)
        self.assertEqual(told[1][0][1:3], (60 * (BIG - 25), 60 * 6))
        self.assertEqual(told[1][-1][1:3], (60 * BIG, 60))

    def test_moving_prices_that_are_0_in_a_part(self):
        book = {"a": (1, ((1,), (2,))), "b": (1, ((1,), (2,)))}
        question = (), (("a", ("x",)), ("b", ("x",)))
        for moving in ({"a": (0, 1), "b": (1, 0)}, {"a": (1, 0), "b": (0, 1)}, {"a": (0, 3), "b": (0, 2)},
                {"a": (3, 0), "b": (2, 0)}):
            for pinned in (None, (), (("a", (1,)),), (("b", (1,)),)):
                self.check(book, question, moving, pinned)
        told = roof(book, question, {"a": (0, 1), "b": (1, 0)}, None)
        self.assertEqual(told[2][0], ())
        self.assertEqual([stretch[:3] for stretch in told[1]], [((0, 1), 0, 2), ((1, 1), 2, 0)])

    def test_lines_are_the_same_at_every_t(self):
        # With nothing pinned neither rules the other one, though their prices are equal at 1.
        question = (), (("a", ("x",)), ("b", ("x",)))
        book = {"a": (1, ((1,),)), "b": (1, ((1,),))}
        told = roof(book, question, {"a": (1, 3), "b": (2, 2)}, None)
        self.assertEqual(told[1], (((0, 1), 1, 3, (("a", (1,)),)), ((1, 1), 2, 2, (("b", (1,)),))))
        self.assertEqual(roof(book, question, {"a": (2, 2), "b": (2, 2)}, None)[1], (((0, 1), 2, 2, (("a", (1,)),)),))
        # c and d rule in turn by the prices at one t, so that at no t there is a triad of three tables.
        question = (), TRIANGLE[1] + (("u", ("p",)),)
        book = {**TRIANGLE_BOOK, "u": (1, ((1,),))}
        moving = {"r": (1, 5), "s": (1, 1), "t": (1, 1), "u": (2, 1)}
        self.assertEqual(raised(roof, book, question, moving, None)[0], NoLine)
        self.assertIsNone(raised(roof, book, question, {**moving, "u": (1, 1)}, None))

    def test_no_way_and_a_way_that_stands(self):
        question = (), (("a", ("x",)), ("b", ("x",)))
        book = {"a": (1, ((1,),)), "b": (1, ((2,),))}
        for moving in ({"a": (1, 1), "b": None}, {"a": None, "b": None}, {"a": (0, 1), "b": (1, 0)}):
            for pinned in (None, ()):
                told = roof(book, question, moving, pinned)
                self.assertEqual(told, ("roof", (((0, 1), 0, 0, ()),), ((), ())))
                self.assertIs(shows_roof(book, question, moving, pinned, told), True)
        book = {"a": (1, ((1,),)), "b": (1, ((1,),))}
        self.assertEqual(roof(book, question, {"a": None, "b": None}, None), ("stands", (1,)))
        self.assertEqual(roof(book, question, {"a": None, "b": (1, 1)}, (("b", (1,)),)), ("stands", (1,)))

    def test_several_pieces(self):
        question = (), (("a", ("x",)), ("b", ("y",)), ("c", ("z",)))
        book = {"a": (1, ((1,),)), "b": (1, ((1,), (2,))), "c": (1, ((1,),))}
        for moving in ({"a": (1, 1), "b": (1, 0), "c": None}, {"a": (2, 2), "b": (1, 1), "c": (0, 5)},
                {"a": None, "b": None, "c": (2, 1)}):
            for pinned in (None, (), (("a", (1,)),) if moving["a"] else ()):
                self.check(book, question, moving, pinned)
        # Of pieces with the same price the first one is told.
        told = roof(book, question, {"a": (2, 2), "b": (1, 1), "c": (2, 2)}, None)
        self.assertEqual(told[1], (((0, 1), 2, 2, (("a", (1,)),)),))

    def test_many_ways_only_together(self):
        book = {table: (1, SIXTY[:50]) for table in "abc"}
        question = (), (("a", ("x",)), ("b", ("y",)), ("c", ("z",)))
        moving = {"a": (1, 2), "b": (2, 1), "c": (9, 9)}
        told = roof(book, question, moving, None)
        self.assertEqual(Roof(told[1]).front(), [(50, 100), (100, 50)])
        self.assertIs(shows_roof(book, question, moving, None, told), True)

    def test_arguments_are_kept(self):
        for pinned in (None, (), (("a", (1,)),)):
            keeps_arguments(self, roof, BOOK, QUESTION, MOVING, pinned)
        told = roof(BOOK, QUESTION, MOVING, None)
        keeps_arguments(self, shows_roof, BOOK, QUESTION, MOVING, None, told)
        keeps_arguments(self, need_moving, QUESTION, MOVING)
        book, moving = copy.deepcopy(BOOK), dict(MOVING)
        told = roof(book, QUESTION, moving, None)
        book["c"], moving["c"] = (2, ()), None
        self.assertEqual(told, roof(BOOK, QUESTION, MOVING, None))


class ErrorsTest(unittest.TestCase):
    def both(self, error, *arguments):
        self.assertEqual(raised(roof, *arguments), error)
        self.assertEqual(raised(shows_roof, *arguments, None), error)

    def test_no_question_no_price_no_row(self):
        moving = {"a": (1, 1), "b": (1, 1), "c": None, "e": None}
        for thing in NEVER_RIGHT:
            self.both((NoQuestion, {}), LARGE, thing, None, "?")
            self.both((NoPrice, {}), LARGE, ((), LARGE_ATOMS), thing, "?")
            if thing is not None:
                self.both((NoRow, {}), LARGE, ((), LARGE_ATOMS), moving, thing)
        self.both((NoQuestion, {}), BOOK, (("y",), QUESTION[1]), MOVING, None)
        self.both((NoPrice, {}), BOOK, QUESTION, {"c": 1, "a": 2, "b": 1}, None)
        for pinned in ((("c", (0, 0)),), (("a", (60,)),), (("a", (1,)), ("a", (0,))), (("a", (1,)),) * 2,
                (("d", (1,)),), [("a", (1,))]):
            self.both((NoRow, {}), LARGE, ((), LARGE_ATOMS), moving, pinned)
            self.both((NoRow, {}), TRIANGLE_BOOK, TRIANGLE, EACH_ONE, pinned)

    def test_no_line(self):
        book = {**LARGE, **TRIANGLE_BOOK}
        question = (), LARGE_ATOMS[:3] + TRIANGLE[1]
        moving = {"a": (1, 1), "b": (1, 1), "c": None, **EACH_ONE}
        for pinned in (None, (), (("r", (1, 1)),)):
            kind, fields = raised(roof, book, question, moving, pinned)
            self.assertEqual((kind, fields["paper"][0]), (NoLine, ("r", "s", "t")))
            self.assertTrue(shows_triad(question, ("r", "s", "t"), fields["paper"]))
            self.assertIs(shows_roof(book, question, moving, pinned, None), False)

    def test_too_many(self):
        moving = {"a": (1, 1), "b": (1, 1), "c": None, "e": None}
        self.assertEqual(raised(roof, LARGE, ((), LARGE_ATOMS), moving, None), (TooMany, {"limit": 2000}))


class JudgeTest(unittest.TestCase):
    def agree(self, case, thing):
        expected = surveys.judge_roof(*case, thing)
        self.assertIs(shows_roof(*case, thing), expected, (case, shown(thing)))
        if expected and thing[0] == "roof":
            told = [(Fraction(*stretch[0]), stretch[1], stretch[2]) for stretch in thing[1]]
            self.assertEqual(told, surveys.envelope(*case))
        return expected

    def test_changed_anywhere(self):
        taken = many = 0
        for source, *case in surveys.moving_cases(64000, 120):
            told = roof(*case)
            many += len(told[1]) > 1 and told[0] == "roof"
            for thing in some_changes(source, told, 60):
                taken += self.agree(case, thing)
            for at in range(1, len(told)):
                for part in some_changes(source, told[at], 40):
                    taken += self.agree(case, told[:at] + (part,) + told[at + 1:])
        self.assertGreater(many, 8)
        self.assertGreater(taken, 20)

    def test_stretches_left_out_parted_and_in_another_order(self):
        many = 0
        for _, *case in surveys.moving_cases(61000, 500):
            told = roof(*case)
            if told[0] == "stands" or len(told[1]) < 2:
                continue
            many += 1
            _, stretches, papers = told
            for at in range(len(stretches)):
                left = stretches[:at] + stretches[at + 1:], papers[:at] + papers[at + 1:]
                self.assertIs(self.agree(case, ("roof", *left)), False)
                self.assertIs(self.agree(case, ("roof", left[0], papers)), False)
                self.assertIs(self.agree(case, ("roof", stretches, left[1])), False)
                again = stretches[:at] + stretches[at:at + 1] + stretches[at:], papers[:at] + papers[at:at + 1] + papers[at:]
                self.assertIs(self.agree(case, ("roof", *again)), False)
                parted = list(stretches)
                middle = Fraction(*stretches[at][0]) + Fraction(1, 1000)
                parted.insert(at + 1, (surveys.plain(middle), *stretches[at][1:]))
                self.assertIs(self.agree(case, ("roof", tuple(parted), again[1])), False)
            self.assertIs(self.agree(case, ("roof", stretches[::-1], papers[::-1])), False)
        self.assertGreater(many, 10)

    def test_fractions(self):
        told = roof(BOOK, QUESTION, MOVING, None)
        first, second = told[1]
        for t in ((2, 2), (1.0, 1), (True, 1), (1, True), [1, 1], 1, (1,), (1, 1, 1), (-1, -1), (1, 0), (1, 2), (0, 1),
                None):
            thing = "roof", (first, (t, *second[1:])), told[2]
            self.assertIs(shows_roof(BOOK, QUESTION, MOVING, None, thing), False, t)
        for t in ((0, 2), (False, 1), (0, True), (1, 2), (0,), (0, 0), (0, -1), None):
            thing = "roof", ((t, *first[1:]), second), told[2]
            self.assertIs(shows_roof(BOOK, QUESTION, MOVING, None, thing), False, t)

    def test_fractions_not_in_lowest_terms_with_their_amounts(self):
        told = roof(BOOK, QUESTION, MOVING, None)
        first, second = told[1]
        doubled = tuple((way, 2 * amount) for way, amount in told[2][1])
        self.assertIs(shows_roof(BOOK, QUESTION, MOVING, None, ("roof", (first, ((2, 2), *second[1:])),
            (told[2][0], doubled, told[2][2]))), False)
        doubled = tuple((way, 2 * amount) for way, amount in told[2][0])
        self.assertIs(shows_roof(BOOK, QUESTION, MOVING, None, ("roof", (((0, 2), *first[1:]), second),
            (doubled, *told[2][1:]))), False)

    def test_a_stretch_parted_with_amounts_for_both_parts(self):
        told = roof(BOOK, QUESTION, MOVING, None)
        first, second = told[1]
        for t, at in (((1, 2), 1), ((3, 1), 2)):
            prices = {table: a * t[1] + b * t[0] for table, (a, b) in MOVING.items()}
            amounts = least_cut(BOOK, QUESTION, prices, ())[3]
            stretches, papers = list(told[1]), list(told[2])
            stretches.insert(at, (t, *told[1][at - 1][1:]))
            papers.insert(at, amounts)
            self.assertEqual(sum(amount for _, amount in amounts), stretches[at][1] * t[1] + stretches[at][2] * t[0])
            self.assertIs(self.agree((BOOK, QUESTION, MOVING, None), ("roof", tuple(stretches), tuple(papers))), False)

    def test_sums_that_are_not_those_of_the_rows(self):
        book, question, moving = {"a": (1, ((1,),))}, ((), (("a", ("x",)),)), {"a": (2, 3)}
        rows = (("a", (1,)),)
        for a, b in ((0, 0), (1, 0), (2, 2), (1, 3)):
            papers = tuple((((1,), amount),) if amount else () for amount in (a, b))
            self.assertFalse(self.agree((book, question, moving, None), ("roof", (((0, 1), a, b, rows),), papers)))
        papers = ((((1,), 2),), (((1,), 3),))
        self.assertTrue(self.agree((book, question, moving, None), ("roof", (((0, 1), 2, 3, rows),), papers)))

    def test_other_rows_of_the_same_sums(self):
        book = {"a": (1, ((1,),)), "b": (1, ((1,),))}
        question = (), (("a", ("x",)), ("b", ("x",)))
        case = book, question, {"a": (2, 1), "b": (2, 1)}, None
        amounts = (((1,), 2),), (((1,), 1),)
        for table in "ab":
            self.assertTrue(self.agree(case, ("roof", (((0, 1), 2, 1, ((table, (1,)),)),), amounts)))
        self.assertFalse(self.agree(case, ("roof", (((0, 1), 4, 2, (("a", (1,)), ("b", (1,)))),), amounts)))
        self.assertFalse(self.agree(case, ("roof", (), ((),))))
        self.assertFalse(self.agree(case, ("roof", (), ())))

    def test_a_question_without_a_line(self):
        rows = (("r", (1, 1)),)
        case = TRIANGLE_BOOK, TRIANGLE, {"r": (1, 1), "s": (1, 2), "t": (2, 1)}, ()
        self.assertTrue(self.agree(case, ("roof", (((0, 1), 1, 1, rows),), ((((1, 1, 1), 1),), (((1, 1, 1), 1),)))))
        self.assertFalse(self.agree(case, ("stands", (1, 1, 1))))

    def test_any_objects(self):
        told = roof(BOOK, QUESTION, MOVING, None)
        for thing in ANY_OBJECTS + [Roof(told[1]), ("roof", Roof(told[1]), told[2])]:
            self.assertIs(shows_roof(BOOK, QUESTION, MOVING, None, thing), False, shown(thing))
            self.assertIs(shows_roof(BOOK, QUESTION, MOVING, None, ("stands", thing)), False, shown(thing))
            for at in range(3):
                self.assertIs(shows_roof(BOOK, QUESTION, MOVING, None, told[:at] + (thing,) + told[at + 1:]), False)
            for at in range(4):
                stretch = told[1][0][:at] + (thing,) + told[1][0][at + 1:]
                right = at in (1, 2) and thing == 1 and thing is not True
                self.assertIs(
                    shows_roof(BOOK, QUESTION, MOVING, None, ("roof", (stretch, told[1][1]), told[2])), right,
                    shown(thing)
                )

    def test_too_many(self):
        moving = {"a": (1, 1), "b": (1, 1), "c": None, "e": (1, 0)}
        case = LARGE, ((), LARGE_ATOMS), moving, None
        e = (("e", (0,)),)
        too_many = (TooMany, {"limit": 2000})
        for a, b, papers in ((1, 0, None), (7, None, ()), ("1", 0, ((), ()))):
            self.assertEqual(raised(shows_roof, *case, ("roof", (((0, 1), a, b, e),), papers)), too_many)
        second = ((1, 1), 0, 0, e)
        # All rows of a and one of b: few ways are left, but the question is small enough only then.
        rows = tuple(("a", row) for row in SIXTY)
        self.assertEqual(raised(shows_roof, *case, ("roof", (((0, 1), 60, 60, rows), second), None)), too_many)
        self.assertIs(shows_roof(*case, ("roof", (((0, 1), 60, 60, rows),), None)), False)
        self.assertIs(shows_roof(*case, ("roof", (((0, 2), 1, 0, e),), None)), False)
        self.assertIs(shows_roof(*case, ("roof", (((0, 1), 1, 0, e), ((0, 1), 1, 0, e)), None)), False)
        self.assertIs(shows_roof(*case, ("roof", (((0, 1), 1, 0, [*e]),), None)), False)
        self.assertIs(shows_roof(*case[:3], e, ("roof", (((0, 1), 1, 0, e),), None)), False)
        self.assertIs(shows_roof(*case, ("stands", (0, 0))), False)


class ReadTest(unittest.TestCase):
    A, B = (("a", (1,)),), (("b", (1,)), ("b", (2,)))
    STRETCHES = (((0, 1), 1, 6, A), ((2, 6), 2, 3, B), ((5, 1), 17, 0, ()))

    def test_by_hand(self):
        read = Roof(self.STRETCHES)
        self.assertEqual((len(read), read.front()), (3, [(1, 6), (2, 3), (17, 0)]))
        told = {
            (0, 1): ((1, 1), self.A), (0, 9): ((1, 1), self.A), (1, 6): ((2, 1), self.A), (1, 4): ((5, 2), self.A),
            (1, 3): ((3, 1), self.B), (5, 15): ((3, 1), self.B), (1, 2): ((7, 2), self.B), (4, 1): ((14, 1), self.B),
            (5, 1): ((17, 1), ()), (10, 2): ((17, 1), ()), (10 ** 40, 1): ((17, 1), ()),
            (10 ** 40 - 1, 3 * 10 ** 40): ((15 * 10 ** 39 - 1, 5 * 10 ** 39), self.A),
        }
        for t, (price, rows) in told.items():
            self.assertEqual((read.price_at(t), read.cut_at(t)), (price, rows), t)

    def test_a_price_of_0(self):
        read = Roof((((0, 1), 0, 0, ()),))
        self.assertEqual((len(read), read.price_at((7, 3)), read.cut_at((7, 3)), read.front()),
            (1, (0, 1), (), [(0, 0)]))

    def test_no_price(self):
        read = Roof(self.STRETCHES)
        wrong = [thing for thing in ANY_OBJECTS if thing != (0, 10 ** 30)]
        for t in wrong + [(0, 0), (-1, 2), (1, -2), (True, 1), (1, True), (1, 2, 3), [1, 2], (1.5, 1), ("1", 1),
                (1, None)]:
            self.assertEqual(raised(read.price_at, t), (NoPrice, {}), shown(t))
            self.assertEqual(raised(read.cut_at, t), (NoPrice, {}), shown(t))

    def test_equality(self):
        read = Roof(self.STRETCHES)
        self.assertTrue(read == Roof(tuple(list(self.STRETCHES))))
        self.assertFalse(read != Roof(self.STRETCHES))
        others = [Roof(self.STRETCHES[:2]), Roof(self.STRETCHES[::-1]), Roof(()), self.STRETCHES, Roof(((1, 2, 3, 4),))]
        for other in others + ANY_OBJECTS:
            self.assertFalse(read == other)
            self.assertTrue(read != other)
        self.assertTrue(Roof(((1, 2, 3, 4),)) == Roof(((1, 2, 3, 4),)))

    def test_what_is_returned_is_new(self):
        read = Roof(self.STRETCHES)
        read.front().clear()
        self.assertEqual(len(read.front()), 3)


if __name__ == "__main__":
    unittest.main()
