import copy
import unittest

import references
from answercut import nets
from answercut.errors import NoLine, NoPrice, NoQuestion, NoRow, TooMany
from answercut.lines import need_line
from answercut.nets import least_cut, shows_cut, shows_least
from changes import changes, some_changes
from helpers import keeps_arguments, raised
from oddities import ANY_OBJECTS, shown

BIG = 10 ** 30
BOOK = {"a": (1, ((1,), (2,))), "b": (2, ((1, 5), (1, 6), (2, 6))), "c": (1, ((5,), (6,)))}
QUESTION = ((), (("a", ("x",)), ("b", ("x", "y")), ("c", ("y",))))
PRICES = {"a": 3, "b": 2, "c": 4}
SIXTY = tuple((k,) for k in range(60))
# The piece of a, b and c has more than 2,000 ways of its first two atoms, whatever c's rows are.
LARGE = {"a": (1, SIXTY), "b": (1, SIXTY), "c": (2, ((0, 0),)), "d": (1, ((1,),)), "r": (1, ())}
LARGE_ATOMS = (("a", ("x",)), ("b", ("y",)), ("c", ("x", "y")))
TRIANGLE_ATOMS = (("r", ("p", "q")), ("s", ("q", "w")), ("t", ("w", "p")))


def cases(first, many, most_atoms=4, most_rows=5):
    """Small books, questions with lines, prices and pins; in many of them the question holds."""
    for number in range(first, first + many):
        source = references.source_of(number)
        question = references.some_question(source, most_atoms)
        book = references.some_book(source, question, most_rows, 2)
        prices = references.some_prices(source, question)
        pinned = references.some_pinned(source, book, question, prices)
        tables = [references.line_tables(question, prices, pinned, piece) for piece in references.pieces(question)]
        few = len(references.loose_pairs(book, question, prices)) < 13
        if few and all(references.lines(question, some) for some in tables):
            yield source, book, question, prices, pinned


class InterfaceTest(unittest.TestCase):
    def test_functions_are_defined_in_this_file(self):
        self.assertEqual({each.__module__ for each in (least_cut, shows_cut, shows_least)}, {nets.__name__})

    def test_example(self):
        told = least_cut(BOOK, QUESTION, PRICES, None)
        self.assertEqual(told[:3], ("cut", 5, (("a", (1,)), ("b", (2, 6)))))
        self.assertIs(shows_least(BOOK, QUESTION, PRICES, None, told), True)
        pinned = (("a", (1,)), ("b", (1, 6)), ("c", (6,)))
        self.assertEqual(least_cut(BOOK, QUESTION, PRICES, pinned), ("stands", (1, 6)))


class ToldTest(unittest.TestCase):
    def cut(self, book, question, prices, pinned, price, rows):
        told = least_cut(book, question, prices, pinned)
        self.assertEqual(told[:3], ("cut", price, rows))
        self.assertEqual(len(told), 4)
        self.assertIs(references.judge_least(book, question, prices, pinned, told), True)
        self.assertIs(shows_least(book, question, prices, pinned, told), True)

    def test_one_row(self):
        book, question = {"a": (1, ((1,),))}, ((), (("a", ("x",)),))
        for price in (1, 7, BIG):
            self.cut(book, question, {"a": price}, None, price, (("a", (1,)),))
            self.cut(book, question, {"a": price}, (), price, (("a", (1,)),))
        self.assertEqual(least_cut(book, question, {"a": None}, None), ("stands", (1,)))
        self.assertEqual(least_cut(book, question, {"a": None}, ()), ("stands", (1,)))
        self.assertEqual(least_cut(book, question, {"a": 1}, (("a", (1,)),)), ("stands", (1,)))

    def test_no_way(self):
        book, question = {"a": (1, ((1,),)), "b": (1, ((2,),))}, ((), (("a", ("x",)), ("b", ("x",))))
        for prices in ({"a": 1, "b": 1}, {"a": None, "b": 1}, {"a": None, "b": None}):
            for pinned in (None, ()):
                self.assertEqual(least_cut(book, question, prices, pinned), ("cut", 0, (), ()))
        pinned = (("a", (1,)), ("b", (2,)))
        self.assertEqual(least_cut(book, question, {"a": 1, "b": 1}, pinned), ("cut", 0, (), ()))

    def test_large_prices(self):
        book = {"a": (1, SIXTY), "b": (1, SIXTY)}
        question = ((), (("b", ("x",)), ("a", ("x",))))
        all_rows = tuple(("a", row) for row in SIXTY)
        self.cut(book, question, {"a": BIG - 1, "b": BIG}, None, 60 * BIG - 60, all_rows)
        self.cut(book, question, {"a": BIG - 1, "b": BIG}, (), 60 * BIG - 60, all_rows)
        self.cut(book, question, {"a": BIG, "b": BIG}, (), 60 * BIG, tuple(("b", row) for row in SIXTY))

    def test_the_cut_nearest_to_the_beginning_of_the_line(self):
        # The told line is b, a, c: the least one by the places in the question.
        book = {"a": (2, ((1, 1),)), "b": (1, ((1,),)), "c": (1, ((1,),))}
        question = ((), (("b", ("x",)), ("a", ("x", "y")), ("c", ("y",))))
        self.cut(book, question, {"a": 2, "b": 2, "c": 2}, (), 2, (("b", (1,)),))
        self.cut(book, question, {"a": 1, "b": 2, "c": 1}, (), 1, (("a", (1, 1)),))
        turned = ((), question[1][::-1])
        self.cut(book, turned, {"a": 2, "b": 2, "c": 2}, (), 2, (("c", (1,)),))
        self.cut(book, turned, {"a": 2, "b": 2, "c": 2}, (("c", (1,)),), 2, (("a", (1, 1)),))

    def test_nothing_pinned_is_not_an_empty_tuple_pinned(self):
        # b comes first; but if nothing is pinned, a rules it.
        book = {"a": (1, ((1,),)), "b": (2, ((1, 1),))}
        question = ((), (("b", ("x", "y")), ("a", ("x",))))
        self.cut(book, question, {"a": 2, "b": 2}, None, 2, (("a", (1,)),))
        self.cut(book, question, {"a": 2, "b": 2}, (), 2, (("b", (1, 1)),))

    def test_an_empty_tuple_pinned_may_leave_no_line(self):
        question = ((), TRIANGLE_ATOMS + (("u", ("p",)),))
        book = {"r": (2, ((1, 1),)), "s": (2, ((1, 1),)), "t": (2, ((1, 1),)), "u": (1, ((1,),))}
        prices = dict.fromkeys("rstu", 1)
        self.cut(book, question, prices, None, 1, (("s", (1, 1)),))
        with self.assertRaises(NoLine) as caught:
            least_cut(book, question, prices, ())
        self.assertEqual(caught.exception.paper[0], ("r", "s", "t"))

    def test_bounds_of_ruled_tables(self):
        # Amounts through both rows of c are bounded by a's price; c is ruled.
        book = {"a": (1, ((1,),)), "c": (2, ((1, 1), (1, 2))), "b": (2, ((1, 5), (2, 5)))}
        question = ((), (("c", ("x", "y")), ("a", ("x",)), ("b", ("y", "z"))))
        self.cut(book, question, {"a": 5, "b": 4, "c": 6}, None, 5, (("a", (1,)),))
        self.cut(book, question, {"a": 5, "b": 2, "c": 6}, None, 4, (("b", (1, 5)), ("b", (2, 5))))

    def test_the_first_of_several_pieces_with_the_least_price(self):
        book = {"a": (1, ((1,), (2,))), "b": (1, ((3,),)), "c": (1, ((4,),)), "d": (1, ((5,),))}
        question = ((), (("a", ("x",)), ("b", ("y",)), ("d", (5,)), ("c", ("z",))))
        self.cut(book, question, {"a": 1, "b": 2, "c": 2, "d": 2}, None, 2, (("a", (1,)), ("a", (2,))))
        self.cut(book, question, {"a": 2, "b": 2, "c": 2, "d": 2}, None, 2, (("b", (3,)),))
        self.cut(book, question, {"a": 2, "b": 2, "c": 1, "d": 1}, None, 1, (("d", (5,)),))
        self.cut(book, question, {"a": 7, "b": None, "c": 9, "d": None}, None, 9, (("c", (4,)),))
        self.cut(book, question, {"a": 7, "b": None, "c": None, "d": None}, None, 14, (("a", (1,)), ("a", (2,))))
        self.cut(book, question, {"a": 1, "b": 2, "c": 2, "d": 2}, (("a", (2,)), ("b", (3,))), 2, (("d", (5,)),))

    def test_a_piece_without_a_way(self):
        book = {"a": (1, ((1,),)), "b": (1, ()), "c": (1, ((1,),))}
        question = ((), (("a", ("x",)), ("b", ("y",)), ("c", (1,))))
        for prices in ({"a": 1, "b": 2, "c": None}, {"a": None, "b": None, "c": None}):
            self.assertEqual(least_cut(book, question, prices, None), ("cut", 0, (), ()))

    def test_ways_that_stand_in_several_pieces(self):
        book = {"a": (1, ((1,), (2,))), "b": (1, ((3,), (4,))), "c": (1, ((5,),))}
        question = ((), (("a", ("z",)), ("b", ("y",)), ("c", (5,))))
        told = least_cut(book, question, {"a": None, "b": 1, "c": None}, (("b", (4,)),))
        self.assertIn(told, [("stands", (4, 1)), ("stands", (4, 2))])
        self.assertEqual(least_cut(book, question, dict.fromkeys("abc", 1), (("a", (2,)), ("b", (3,)), ("c", (5,)))),
                         ("stands", (3, 2)))

    def test_against_all_sets_of_rows(self):
        kinds = {}
        for _, book, question, prices, pinned in cases(0, 1200):
            expected = references.told_cut(book, question, prices, pinned)
            told = least_cut(book, question, prices, pinned)
            self.assertIs(references.judge_least(book, question, prices, pinned, told), True)
            self.assertIs(shows_least(book, question, prices, pinned, told), True)
            if expected is None:
                self.assertEqual(told[0], "stands")
            else:
                self.assertEqual(told[:3], ("cut",) + expected)
                self.assertIs(shows_cut(book, question, prices, pinned, told[2]), True)
            kind = told[0], expected is not None and expected[0] > 0, pinned is None
            kinds[kind] = kinds.get(kind, 0) + 1
        self.assertTrue(all(kinds.get(kind, 0) > 20 for kind in [
            ("cut", True, True), ("cut", True, False), ("stands", False, True), ("stands", False, False),
        ]), kinds)

    def test_a_ruling_table_s_cut_is_as_cheap_as_any(self):
        for _, book, question, prices, _ in cases(0, 250):
            told = least_cut(book, question, prices, None)
            loose = references.loose_tables(question, prices)
            best, _ = references.least_cuts(book, question, prices, (), loose)
            self.assertEqual(told[1] if told[0] == "cut" else None, best)

    def test_a_long_chain_of_many_rows(self):
        source = references.source_of(5)
        for worths in (15, 40, 45):
            tables = [f"t{k}" for k in range(6)]
            rows = {(source.randrange(worths), source.randrange(worths)) for _ in range(200)}
            book = {table: (2, tuple(sorted(source.sample(sorted(rows), 60)))) for table in tables}
            many = 3 if worths < 20 else 6
            question = ((), tuple((table, (f"x{k}", f"x{k + 1}")) for k, table in enumerate(tables[:many])))
            prices = {table: source.randint(1, BIG) for table in tables[:many]}
            told = least_cut(book, question, prices, None)
            self.assertIs(shows_least(book, question, prices, None, told), True)
            self.assertGreater(told[1], 0)


class ChangedRowsTest(unittest.TestCase):
    """Point 19, as far as least cuts go."""

    def price(self, told):
        return told[1] if told[0] == "cut" else None

    def test_rows_that_go(self):
        for _, book, question, prices, _ in cases(2000, 500):
            told = least_cut(book, question, prices, None)
            used = {pair for way in references.ways(book, question) for pair in references.rows_of(question, way)}
            for table, row in references.loose_pairs(book, question, prices):
                fewer = references.lost(book, [(table, row)])
                behind = least_cut(fewer, question, prices, None)
                if told[0] == "stands":
                    self.assertEqual(behind[0], "stands")
                else:
                    self.assertTrue(told[1] - prices[table] <= behind[1] <= told[1])
                    if (table, row) not in used:
                        self.assertEqual(behind[:3], told[:3])
                    if (table, row) in told[2]:
                        rest = tuple(pair for pair in told[2] if pair != (table, row))
                        self.assertEqual(behind[:3], ("cut", told[1] - prices[table], rest))

    def test_rows_of_tables_in_any_order(self):
        for source, book, question, prices, pinned in cases(2500, 100):
            turned = {table: book[table] for table in sorted(book, reverse=True)}
            mixed = {table: prices[table] for table in source.sample(sorted(prices), len(prices))}
            self.assertEqual(least_cut(book, question, prices, pinned), least_cut(turned, question, mixed, pinned))


class JudgeTest(unittest.TestCase):
    def agrees(self, book, question, prices, pinned, thing):
        least = references.judge_least(book, question, prices, pinned, thing)
        cut = references.judge_cut(book, question, prices, pinned, thing)
        self.assertIs(shows_least(book, question, prices, pinned, thing), least, (book, question, prices, pinned, thing))
        self.assertIs(shows_cut(book, question, prices, pinned, thing), cut, (book, question, prices, pinned, thing))
        return least or cut

    def test_right_objects_changed_at_any_place(self):
        for pinned in (None, (), (("a", (1,)),), (("a", (1,)), ("b", (1, 6)), ("c", (6,)))):
            told = least_cut(BOOK, QUESTION, PRICES, pinned)
            for thing in [told, *changes(told)] + ([] if told[0] == "stands" else [told[2], *changes(told[2])]):
                self.agrees(BOOK, QUESTION, PRICES, pinned, thing)

    def test_all_sets_of_loose_rows(self):
        pairs = references.loose_pairs(BOOK, QUESTION, PRICES)
        for pinned in (None, (), (("a", (1,)),)):
            for chosen in references.subsets(pairs):
                self.agrees(BOOK, QUESTION, PRICES, pinned, chosen)

    def test_changed_objects_of_many_questions(self):
        right = 0
        for source, book, question, prices, pinned in cases(4000, 400, 5):
            told = least_cut(book, question, prices, pinned)
            for thing in some_changes(source, told, 15):
                right += self.agrees(book, question, prices, pinned, thing)
            if told[0] == "cut":
                for thing in some_changes(source, told[2], 8):
                    self.agrees(book, question, prices, pinned, thing)
        self.assertGreater(right, 0)

    def test_answers_of_another_pin(self):
        for _, book, question, prices, pinned in cases(5000, 200):
            for other in (None, ()):
                tables = [references.line_tables(question, prices, other, piece) for piece in references.pieces(question)]
                if all(references.lines(question, some) for some in tables):
                    self.agrees(book, question, prices, pinned, least_cut(book, question, prices, other))

    def test_other_amounts_with_the_same_sum(self):
        book = {"a": (1, ((1,), (2,))), "b": (1, ((5,), (6,)))}
        question, prices = ((), (("a", ("x",)), ("b", ("y",)))), {"a": 2, "b": 2}
        rows = (("a", (1,)), ("a", (2,)))
        for amounts in (
            (((1, 5), 2), ((2, 6), 2)), (((1, 6), 2), ((2, 5), 2)), (((1, 5), 1), ((1, 6), 1), ((2, 5), 1), ((2, 6), 1)),
        ):
            self.assertIs(shows_least(book, question, prices, None, ("cut", 4, rows, amounts)), True)
            self.assertIs(shows_least(book, question, prices, (), ("cut", 4, rows, amounts)), True)
        for amounts in (
            (((1, 5), 2), ((2, 5), 2)), (((2, 6), 2), ((1, 5), 2)), (((1, 5), 1), ((1, 5), 1), ((2, 6), 2)),
            (((1, 5), 2), ((1, 6), 0), ((2, 6), 2)), (((1, 5), 3), ((2, 6), 1)), (((1, 5), 2), ((2, 6), 1)),
            (((1, 5), 2), ((2, 6), 3)), (((1, 5), 2), ((2, 6), True), ((2, 6), 1)), (((True, 5), 2), ((2, 6), 2)), (), [],
            (((1, 5), 2), ((2, 7), 2)), (((1, 5), 2, 0), ((2, 6), 2)), (((1, 5), 5), ((2, 6), -1)),
        ):
            self.assertIs(shows_least(book, question, prices, None, ("cut", 4, rows, amounts)), False)
        # A row that is pinned, or firm, carries any amount.
        pinned = (("b", (5,)), ("b", (6,)))
        amounts = (((1, 5), 2), ((2, 5), 2))
        self.assertIs(shows_least(book, question, prices, pinned, ("cut", 4, rows, amounts)), True)
        self.assertIs(shows_least(book, question, {"a": 2, "b": None}, None, ("cut", 4, rows, amounts)), True)

    def test_a_price_below_that_of_the_rows(self):
        told = least_cut(BOOK, QUESTION, PRICES, None)
        for amounts in ((), told[3][:1], told[3][1:], (((1, 5), 1),), tuple((way, amount - 1) for way, amount in told[3][:1])):
            price = sum(amount for _, amount in amounts)
            self.agrees(BOOK, QUESTION, PRICES, None, ("cut", price, told[2], amounts))
            self.assertIs(shows_least(BOOK, QUESTION, PRICES, None, ("cut", price, told[2], amounts)), False)
        # A dearer cut, with its own price or with that of the least one.
        rows = (("a", (1,)), ("a", (2,)))
        for price in (5, 6):
            self.assertIs(shows_least(BOOK, QUESTION, PRICES, None, ("cut", price, rows, told[3])), False)

    def test_a_cut_that_is_not_the_told_one(self):
        book, question = {"a": (1, ((1,),)), "b": (1, ((1,),))}, ((), (("a", ("x",)), ("b", ("x",))))
        for pinned in (None, ()):
            for table in "ab":
                told = ("cut", 1, ((table, (1,)),), (((1,), 1),))
                self.assertIs(shows_least(book, question, {"a": 1, "b": 1}, pinned, told), True)
        told = ("cut", 1, (("b", (1,)),), (((1,), 1),))
        self.assertIs(shows_least(book, question, {"a": 1, "b": 1}, (("b", (1,)),), told), False)
        self.assertIs(shows_cut(book, question, {"a": 1, "b": 1}, (("b", (1,)),), told[2]), False)

    def test_questions_without_a_line(self):
        question, prices = ((), TRIANGLE_ATOMS), {"r": 1, "s": 1, "t": 1}
        book = {"r": (2, ((1, 1), (2, 2))), "s": (2, ((1, 1), (2, 2))), "t": (2, ((1, 1), (2, 2)))}
        self.assertEqual(raised(least_cut, book, question, prices, None)[0], NoLine)
        rows, amounts = (("r", (1, 1)), ("t", (2, 2))), (((1, 1, 1), 1), ((2, 2, 2), 1))
        for thing in [("cut", 2, rows, amounts), *changes(("cut", 2, rows, amounts)), rows, *changes(rows)]:
            self.agrees(book, question, prices, None, thing)
        self.assertIs(shows_least(book, question, prices, None, ("cut", 2, rows, amounts)), True)
        self.assertIs(shows_least(book, question, {"r": None, "s": None, "t": None}, None, ("stands", (1, 1, 1))), True)

    def test_any_objects(self):
        for thing in ANY_OBJECTS:
            with self.subTest(shown(thing)):
                self.assertIs(shows_least(BOOK, QUESTION, PRICES, None, thing), False)
                self.assertIs(shows_cut(BOOK, QUESTION, PRICES, None, thing), False)
                self.assertIs(shows_least(BOOK, QUESTION, PRICES, None, ("stands", thing)), False)
                told = least_cut(BOOK, QUESTION, PRICES, None)
                for at in range(4):
                    other = told[:at] + (thing,) + told[at + 1:]
                    self.assertIs(shows_least(BOOK, QUESTION, PRICES, None, other), False)
                if thing != ():
                    self.assertIs(shows_cut(BOOK, QUESTION, PRICES, None, (thing,)), False)
                    self.assertIs(shows_cut(BOOK, QUESTION, PRICES, None, (("a", thing),)), False)
                    self.assertIs(shows_cut(BOOK, QUESTION, PRICES, None, ((thing, (1,)),)), False)

    def test_amounts_as_large_as_can_be(self):
        book, question = {"a": (1, ((1,),))}, ((), (("a", ("x",)),))
        rows = (("a", (1,)),)
        self.assertIs(shows_least(book, question, {"a": BIG}, None, ("cut", BIG, rows, (((1,), BIG),))), True)
        self.assertIs(shows_least(book, question, {"a": BIG}, None, ("cut", BIG, rows, (((1,), BIG + 1),))), False)
        self.assertIs(shows_least(book, question, {"a": BIG}, None, ("cut", BIG, rows, (((1,), 10 ** 5000),))), False)


class ErrorTest(unittest.TestCase):
    functions = (
        least_cut, lambda *told: shows_cut(*told, ()), lambda *told: shows_least(*told, ("cut", 0, (), ())),
    )

    def refuse(self, kind, book, question, prices, pinned):
        for function in self.functions:
            found = raised(function, book, question, prices, pinned)
            self.assertIsNotNone(found, (question, prices, pinned))
            self.assertIs(found[0], kind, (question, prices, pinned))

    def test_no_question_goes_first(self):
        fitting = ((), (("a", (1,)),))
        wrong = [(("x",), QUESTION[1]), ((), QUESTION[1] + (("d", ("x",)),)), ((), (("a", ("x", "y")),))]
        for question in [thing for thing in ANY_OBJECTS if thing != fitting] + wrong:
            self.refuse(NoQuestion, BOOK, question, {"a": 0}, [])

    def test_no_price_goes_second(self):
        for prices in ANY_OBJECTS + [{"a": 1, "b": 1}, {**PRICES, "d": 1}, {**PRICES, "a": 0}, {**PRICES, "a": BIG + 1},
                                     {**PRICES, "c": True}, {**PRICES, "c": "1"}, {**PRICES, "c": (1,)}]:
            self.refuse(NoPrice, BOOK, QUESTION, prices, [])

    def test_no_row_goes_third(self):
        wrong = [thing for thing in ANY_OBJECTS if thing is not None and thing != ()]
        a, b = ("a", (1,)), ("b", (1, 5))
        wrong += [[a], {a: 1}, (b, a), (a, a), (a, None), (("a", (3,)),), (("a", (True,)),), (("a", [1]),), (("a", (1, 1)),),
                  (["a", (1,)],), (("a", (1,), 1),), (("d", (1,)),), ((1, (1,)),), a, (("b", (1, 5)), ("b", (1, 4)))]
        book = {**BOOK, "d": (1, ((1,),))}
        for pinned in wrong:
            self.refuse(NoRow, book, QUESTION, PRICES, pinned)
        self.refuse(NoRow, book, QUESTION, {**PRICES, "a": None}, (a,))
        self.refuse(NoRow, LARGE, ((), LARGE_ATOMS), dict.fromkeys("abc", 1), (("a", (60,)),))

    def test_no_line_goes_ahead_of_too_many(self):
        book = {**LARGE, "r": (2, ()), "s": (2, ()), "t": (2, ()), "e": (2, ()), "f": (2, ()), "g": (2, ())}
        question = ((), LARGE_ATOMS + TRIANGLE_ATOMS)
        prices = dict.fromkeys("abcrst", 1)
        kind, fields = raised(least_cut, book, question, prices, None)
        self.assertIs(kind, NoLine)
        self.assertEqual(fields, raised(need_line, question, ("r", "s", "t"))[1])
        two = ((), TRIANGLE_ATOMS + (("e", ("k", "l")), ("f", ("l", "m")), ("g", ("m", "k"))))
        prices = dict.fromkeys("rstefg", 2)
        self.assertEqual(raised(least_cut, book, two, prices, None)[1]["paper"][0], ("r", "s", "t"))
        turned = ((), two[1][::-1])
        self.assertEqual(raised(least_cut, book, turned, prices, ())[1]["paper"][0], ("g", "f", "e"))
        self.assertIsNone(raised(least_cut, book, two, {**prices, "r": None, "e": None}, None))

    def test_the_chains_of_a_triad(self):
        question, prices = ((), TRIANGLE_ATOMS), dict.fromkeys("rst", 1)
        paper = raised(least_cut, {table: (2, ()) for table in "rst"}, question, prices, None)[1]["paper"]
        self.assertIs(references.judge_triad(question, ("r", "s", "t"), paper), True)

    def test_too_many_of_a_piece(self):
        prices = dict.fromkeys("abcd", 1)
        for atoms in (LARGE_ATOMS, LARGE_ATOMS + (("d", ("z",)),), (("d", (1,)),) + LARGE_ATOMS, (("d", (2,)),) + LARGE_ATOMS):
            told = {table: prices[table] for table, _ in atoms}
            self.assertEqual(raised(least_cut, LARGE, ((), atoms), told, None), (TooMany, {"limit": 2000}))
            self.assertEqual(raised(least_cut, LARGE, ((), atoms), dict.fromkeys(told), None), (TooMany, {"limit": 2000}))
        turned = ((), LARGE_ATOMS[::-1])
        self.assertEqual(least_cut(LARGE, turned, dict.fromkeys("abc", 1), None)[:3], ("cut", 1, (("b", (0,)),)))

    def test_a_question_may_be_too_large_as_a_whole(self):
        book = {f"t{k}": (1, SIXTY) for k in range(6)}
        question = ((), tuple((f"t{k}", (f"x{k}",)) for k in range(6)))
        prices = {f"t{k}": 9 - k for k in range(6)}
        told = least_cut(book, question, prices, None)
        self.assertEqual(told[:3], ("cut", 240, tuple(("t5", row) for row in SIXTY)))
        self.assertIs(shows_least(book, question, prices, None, told), True)
        for thing in (("cut", 239) + told[2:], told[:3] + (told[3][1:],), told[:3] + (told[3][::-1],)):
            self.assertIs(shows_least(book, question, prices, None, thing), False)

    def test_where_judges_raise_too_many(self):
        question, prices = ((), LARGE_ATOMS), {"a": 1, "b": 2, "c": None}
        a, b = ("a", (1,)), ("b", (1,))
        much = (TooMany, {"limit": 2000})
        for rows in ((), (a,), (a, b), (("b", (0,)),)):
            self.assertEqual(raised(shows_cut, LARGE, question, prices, None, rows), much)
            for price in (0, 1, -5, 10 ** 5000):
                for amounts in ((), None, (((0, 0), 1),)):
                    thing = ("cut", price, rows, amounts)
                    self.assertEqual(raised(shows_least, LARGE, question, prices, (), thing), much)
        for rows in ((b, a), (a, a), [a], (("c", (0, 0)),), (("a", (60,)),), (("a", (True,)),), None, a, (a, None), "a"):
            self.assertIs(shows_cut(LARGE, question, prices, None, rows), False)
            self.assertIs(shows_least(LARGE, question, prices, None, ("cut", 1, rows, ())), False)
        self.assertIs(shows_cut(LARGE, question, prices, (a,), (a,)), False)
        self.assertIs(shows_least(LARGE, question, prices, (a,), ("cut", 1, (a,), ())), False)
        self.assertEqual(raised(shows_cut, LARGE, question, prices, (b,), (a,)), much)
        for thing in (("cut", True, (a,), ()), ("cut", None, (a,), ()), ("cut", "1", (a,), ()), ["cut", 1, (a,), ()],
                      ("cut", 1, (a,)), ("cut", 1, (a,), (), ()), ("stands", 1, (a,), ()), (1, 1, (a,), ())):
            self.assertIs(shows_least(LARGE, question, prices, None, thing), False)
        firm = dict.fromkeys("abc")
        for way, told in (((0, 0), True), ((0, 1), False), ((0,), False), (None, False), ((0, False), False)):
            self.assertIs(shows_least(LARGE, question, firm, None, ("stands", way)), told)
            self.assertIs(shows_least(LARGE, question, prices, None, ("stands", way)), False)
        # Without most rows of a the question is not too large.
        rows = tuple(("a", row) for row in SIXTY[30:])
        self.assertIs(shows_cut(LARGE, question, prices, None, rows), False)
        self.assertIs(shows_cut(LARGE, question, prices, None, tuple(("a", row) for row in SIXTY)), True)

    def test_judges_never_raise_no_line(self):
        question, prices = ((), TRIANGLE_ATOMS), dict.fromkeys("rst", 1)
        book = {table: (2, ((1, 1),)) for table in "rst"}
        for pinned in (None, ()):
            self.assertIs(shows_cut(book, question, prices, pinned, (("s", (1, 1)),)), True)
            self.assertIs(shows_cut(book, question, prices, pinned, ()), False)


class ArgumentsTest(unittest.TestCase):
    def test_no_argument_is_modified(self):
        for _, book, question, prices, pinned in cases(6000, 60):
            told = keeps_arguments(self, least_cut, book, question, prices, pinned)
            keeps_arguments(self, shows_least, book, question, prices, pinned, told)
            keeps_arguments(self, shows_cut, book, question, prices, pinned, told[-2])
            kept = copy.deepcopy(told)
            book.clear()
            prices.clear()
            self.assertEqual(told, kept)


if __name__ == "__main__":
    unittest.main()
