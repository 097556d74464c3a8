import copy
import importlib
import unittest

import references
from answercut.blame import blame, shows_blame
from answercut.errors import NoLine, NoPrice, NoQuestion, NoRow, TooMany
from changes import changes, some_changes
from helpers import keeps_arguments, raised
from oddities import ANY_OBJECTS, shown

BIG = 10 ** 30
SIXTY = tuple((k,) for k in range(60))
BOOK = {"a": (1, ((1,), (2,))), "b": (2, ((1, 1), (1, 2), (2, 2)))}
QUESTION = ((), (("a", ("x",)), ("b", ("x", "y"))))
TRIANGLE_ATOMS = (("r", ("p", "q")), ("s", ("q", "w")), ("t", ("w", "p")))


def cases(first, many):
    """Small books, questions with prices, and loose rows of tables in whose pieces all loose tables have a line."""
    for number in range(first, first + many):
        source = references.source_of(number)
        question = references.some_question(source, 4)
        book = references.some_book(source, question, 5, 2)
        prices = references.some_prices(source, question)
        pairs = references.loose_pairs(book, question, prices)
        loose = references.loose_tables(question, prices)
        for piece in references.pieces(question):
            inside = tuple(table for table in piece if table in loose)
            mine = [pair for pair in pairs if pair[0] in piece]
            if mine and len(pairs) < 13 and references.lines(question, inside):
                yield source, dict(book), question, dict(prices), source.choice(mine)


def ladder(many):
    """A book in which so many sets F lead through the row (1,) of a."""
    return {"a": (1, ((1,), (2,))), "b": (2, tuple((1, k) for k in range(many)))}


class BlameTest(unittest.TestCase):
    def right(self, book, question, prices, pair, price):
        told = blame(book, question, prices, pair)
        self.assertIs(references.judge_blame(book, question, prices, pair, told), True, told)
        self.assertIs(shows_blame(book, question, prices, pair, told), True, told)
        self.assertEqual(told[1] if told[0] == "blame" else None, price)
        self.assertEqual(len(told), 2 if price is None else 5)

    def test_functions_are_defined_in_this_file(self):
        module = importlib.import_module("answercut.blame")
        self.assertEqual({blame.__module__, shows_blame.__module__}, {module.__name__})

    def test_example(self):
        book = {"a": (1, ((1,),)), "b": (2, ((1, 1), (1, 2)))}
        told = blame(book, QUESTION, {"a": 1, "b": 1}, ("b", (1, 1)))
        self.assertEqual(told[:4], ("blame", 1, (("b", (1, 2)),), (1, 1)))
        self.assertIs(shows_blame(book, QUESTION, {"a": 1, "b": 1}, ("b", (1, 1)), told), True)

    def test_a_row_on_which_all_hangs(self):
        book = {"a": (1, ((1,),)), "b": (2, ((1, 1), (1, 2)))}
        self.right(book, QUESTION, {"a": 1, "b": 1}, ("a", (1,)), 0)
        self.right(book, QUESTION, {"a": BIG, "b": None}, ("a", (1,)), 0)
        self.right(book, QUESTION, {"a": None, "b": BIG}, ("b", (1, 1)), BIG)

    def test_rows_of_no_way(self):
        book = {"a": (1, ((1,), (3,))), "b": (2, ((1, 1), (2, 2)))}
        for pair in (("a", (3,)), ("b", (2, 2))):
            self.right(book, QUESTION, {"a": 1, "b": 1}, pair, None)
            self.assertEqual(blame(book, QUESTION, {"a": 1, "b": 1}, pair), ("none", ()))

    def test_a_question_that_does_not_hold(self):
        book = {**BOOK, "c": (1, ((1,),))}
        question = ((), QUESTION[1] + (("c", (2,)),))
        prices = {"a": 1, "b": 1, "c": 1}
        for pair in (("a", (1,)), ("b", (2, 2)), ("c", (1,))):
            self.assertEqual(blame(book, question, prices, pair), ("none", ()))
            self.assertIs(shows_blame(book, question, prices, pair, ("none", ())), True)

    def test_the_piece_alone_matters(self):
        book = {**BOOK, "c": (1, ((1,), (2,))), "r": (2, ((1, 1),)), "s": (2, ((1, 1),)), "t": (2, ((1, 1),))}
        question = ((), (("c", ("z",)),) + QUESTION[1] + TRIANGLE_ATOMS)
        prices = dict.fromkeys("abcrst", 1)
        self.right(book, question, prices, ("c", (1,)), 1)
        self.right(book, question, prices, ("a", (1,)), 1)
        self.right(book, question, prices, ("b", (1, 2)), 2)

    def test_large_prices(self):
        book = {"a": (1, ((1,), (2,), (3,)))}
        self.right(book, ((), (("a", ("x",)),)), {"a": BIG}, ("a", (2,)), 2 * BIG)
        self.right(ladder(60), QUESTION, {"a": None, "b": BIG}, ("b", (1, 5)), 59 * BIG)

    def test_many_sets(self):
        self.right(ladder(60), QUESTION, {"a": 3, "b": 2}, ("a", (1,)), 0)
        book = {**ladder(30), "c": (1, ((1,), (2,)))}
        question = ((), QUESTION[1] + (("c", ("z",)),))
        self.right(book, question, {"a": 3, "b": 2, "c": 1}, ("a", (1,)), 0)
        book["b"] = (2, book["b"][1] + tuple((2, k) for k in range(30)))
        self.right(book, question, {"a": 100, "b": 2, "c": 1}, ("a", (1,)), 60)
        self.right(book, question, {"a": 50, "b": 2, "c": 1}, ("a", (1,)), 50)

    def test_sets_with_different_least_prices(self):
        # The row (1,) of c costs less than the other row of b, but it is pinned if the way over it is to be left.
        book = {"a": (1, ((1,), (2,))), "b": (2, ((1, 1), (1, 2), (2, 1))), "c": (1, ((1,), (2,)))}
        question = ((), (("a", ("x",)), ("b", ("x", "y")), ("c", ("y",))))
        for prices, price in (({"a": 100, "b": 50, "c": 1}, 1), ({"a": 100, "b": 50, "c": 70}, 50)):
            self.right(book, question, prices, ("a", (1,)), price)
            turned = {"a": book["a"], "b": (2, ((1, 1), (1, 2), (2, 2))), "c": book["c"]}
            self.right(turned, question, prices, ("a", (1,)), price)
        sums = [sum(amount for _, amount in paper[1]) for paper in blame(book, question, {"a": 100, "b": 50, "c": 1}, ("a", (1,)))[4]]
        self.assertEqual(sums, [50, 1])

    def test_ways_with_one_set(self):
        # The ways through a row differ in a firm table's rows alone.
        book = ladder(60)
        told = blame(book, QUESTION, {"a": 3, "b": None}, ("a", (1,)))
        self.assertEqual(told[:3] + told[4:], ("blame", 0, (), (((("a", (1,)),), ()),)))

    def test_against_all_sets(self):
        kinds = {}
        for _, book, question, prices, pair in cases(0, 1500):
            price = references.least_blame(book, question, prices, pair)
            self.right(book, question, prices, pair, price)
            kinds[price] = kinds.get(price, 0) + 1
        self.assertTrue(all(kinds.get(price, 0) > 10 for price in (None, 0, 1, 2, 3)), kinds)


class JudgeTest(unittest.TestCase):
    def agrees(self, book, question, prices, pair, thing):
        told = references.judge_blame(book, question, prices, pair, thing)
        self.assertIs(shows_blame(book, question, prices, pair, thing), told, (book, question, prices, pair, thing))
        return told

    def test_right_objects_changed_at_any_place(self):
        prices = {"a": 2, "b": 1}
        right = 0
        for pair in references.loose_pairs(BOOK, QUESTION, prices):
            told = blame(BOOK, QUESTION, prices, pair)
            right += sum(self.agrees(BOOK, QUESTION, prices, pair, thing) for thing in [told, *changes(told)])
        self.assertGreater(right, 5)

    def test_the_blame_of_another_row(self):
        prices = {"a": 2, "b": 1}
        pairs = references.loose_pairs(BOOK, QUESTION, prices)
        for pair in pairs:
            for other in pairs:
                self.agrees(BOOK, QUESTION, prices, pair, blame(BOOK, QUESTION, prices, other))

    def test_changed_objects_of_many_questions(self):
        for source, book, question, prices, pair in cases(3000, 400):
            told = blame(book, question, prices, pair)
            for thing in some_changes(source, told, 12):
                self.agrees(book, question, prices, pair, thing)

    def test_none_with_and_without_sets(self):
        prices = {"a": 2, "b": 1}
        rows = (("a", (2,)), ("b", (2, 2)))
        for papers in ((), ((rows, (1, 1)),), ((rows, (2, 2)),), ((rows, ()),)):
            self.assertIs(shows_blame(BOOK, QUESTION, prices, ("a", (2,)), ("none", papers)), False)
        book = {**BOOK, "a": (1, ((1,), (2,), (3,)))}
        for told in (("none", ()), ("none", ((rows, (1, 1)),)), ("blame", 0, (), (2, 2), ()), ("none", []), ("none", None)):
            self.assertIs(shows_blame(book, QUESTION, prices, ("a", (3,)), told), told == ("none", ()))

    def test_other_sets_and_ways_that_are_right(self):
        # Either of both rows of a keeps the question up with one row of b.
        book = {"a": (1, ((1,), (2,))), "b": (1, ((1,), (2,))), "c": (1, ((5,),))}
        question, prices = ((), (("a", ("x",)), ("b", ("x",)), ("c", ("y",)))), {"a": 1, "b": 1, "c": 1}
        papers = (((("a", (1,)), ("b", (1,))), (((2,), 1),)),)
        for rows, told in (
            ((("a", (2,)),), True), ((("b", (2,)),), True), ((("a", (1,)),), False), ((("b", (1,)),), False),
            ((("c", (5,)),), False), ((), False),
        ):
            thing = ("blame", 1, rows, (1,), papers)
            self.assertIs(shows_blame(book, question, prices, ("a", (1,)), thing), told)
        for rows in ((("a", (2,)), ("b", (2,))), (("a", (2,)), ("c", (5,))), (("b", (2,)), ("c", (5,)))):
            self.assertIs(shows_blame(book, question, prices, ("a", (1,)), ("blame", 2, rows, (1,), papers)), False)
        wide = ((papers[0][0], (((2,), 2),)),)
        self.assertIs(shows_blame(book, question, prices, ("a", (1,)), ("blame", 1, (("a", (2,)),), (1,), wide)), False)

    def test_a_set_that_leaves_no_way_through_the_row(self):
        # Without the row of b nothing is left, neither the way that is to stay.
        book = {"a": (1, ((1,), (2,))), "b": (1, ((5,),)), "m": (2, ((1, 5), (2, 5)))}
        question = ((), (("a", ("x",)), ("b", ("y",)), ("m", ("x", "y"))))
        prices, pair = {"a": 2, "b": 1, "m": None}, ("a", (1,))
        papers = (((("a", (1,)), ("b", (5,))), (((2, 5), 2),)),)
        for told, right in (
            (("blame", 2, (("a", (2,)),), (1, 5), papers), True), (("blame", 1, (("b", (5,)),), (1, 5), papers), False),
        ):
            self.assertIs(shows_blame(book, question, prices, pair, told), right)

    def test_another_piece_does_not_hold(self):
        book = {"a": (1, ((1,),)), "c": (1, ())}
        question, prices = ((), (("a", ("x",)), ("c", ("z",)))), {"a": 2, "c": 1}
        for papers in ((), (((("a", (1,)),), ()),)):
            for told in (("blame", 0, (), (1,), papers), ("none", papers)):
                self.assertIs(shows_blame(book, question, prices, ("a", (1,)), told), told == ("none", ()))

    def test_the_row_itself_in_the_set(self):
        prices = {"a": 2, "b": 1}
        told = blame(BOOK, QUESTION, prices, ("b", (1, 1)))
        for rows in ((("b", (1, 1)),), told[2] + (("b", (1, 1)),), tuple(sorted(told[2] + (("b", (1, 1)),)))):
            price = references.price_of(prices, rows)
            self.agrees(BOOK, QUESTION, prices, ("b", (1, 1)), told[:1] + (price, rows) + told[3:])

    def test_amounts_beyond_the_blame(self):
        # Through one set the blame is 2, through the other one it would be 4: its amounts may add up to anything from 2 on.
        book = {"a": (2, ((1, 1), (1, 2))), "b": (1, ((1,), (2,))), "c": (1, ((1,), (2,)))}
        question = ((), (("c", ("x",)), ("a", ("x", "y")), ("b", ("y",))))
        prices = {"a": 2, "b": None, "c": 9}
        told = blame(book, question, prices, ("a", (1, 1)))
        self.assertEqual(told[1], 2)
        for sums, right in (((2,), True), ((1,), False), ((3,), False)):
            papers = tuple((paper[0], (((1, 2), amount),)) for paper, amount in zip(told[4], sums, strict=True))
            thing = told[:4] + (papers,)
            self.assertIs(shows_blame(book, question, prices, ("a", (1, 1)), thing), right)

    def test_amounts_are_bounded_by_prices(self):
        # In each way that is left there is a loose row that is in no set; the rows of a and c are not lost.
        book = {"a": (2, ((1, 1),)), "b": (2, ((1, 1), (1, 2))), "c": (1, ((1,),))}
        question = ((), (("a", ("x", "y")), ("b", ("y", "z")), ("c", ("x",))))
        prices = {"a": None, "b": 1, "c": 5}
        told = blame(book, question, prices, ("b", (1, 1)))
        self.assertEqual(told[:2], ("blame", 1))
        for amount, right in ((1, True), (2, False), (10 ** 39, False), (10 ** 40, False)):
            papers = ((told[4][0][0], ((told[4][0][1][0][0], amount),)),)
            self.assertIs(shows_blame(book, question, prices, ("b", (1, 1)), told[:4] + (papers,)), right)

    def test_no_way_that_is_left_has_all_its_loose_rows_in_a_set(self):
        # No way that is left has all of its loose rows in a set, so that all amounts are bounded by prices.
        for _, book, question, prices, pair in cases(5000, 100):
            sets = references.blame_sets(book, question, prices, pair)
            part = references.part_of(question, [one for one in references.pieces(question) if pair[0] in one][0])
            for way in references.ways(references.lost(book, [pair]), part):
                self.assertFalse(any(references.stands(part, prices, rows, way) for rows in sets))

    def test_questions_without_a_line(self):
        book = {"r": (2, ((1, 1), (2, 2))), "s": (2, ((1, 1), (2, 2))), "t": (2, ((1, 1), (2, 2)))}
        question, prices, pair = ((), TRIANGLE_ATOMS), dict.fromkeys("rst", 1), ("r", (1, 1))
        self.assertEqual(raised(blame, book, question, prices, pair)[0], NoLine)
        rows = (("r", (1, 1)), ("s", (1, 1)), ("t", (1, 1)))
        told = ("blame", 1, (("s", (2, 2)),), (1, 1, 1), ((rows, (((2, 2, 2), 1),)),))
        self.assertIs(shows_blame(book, question, prices, pair, told), True)
        for thing in changes(told):
            self.agrees(book, question, prices, pair, thing)

    def test_any_objects(self):
        prices, pair = {"a": 2, "b": 1}, ("a", (1,))
        told = blame(BOOK, QUESTION, prices, pair)
        for thing in ANY_OBJECTS:
            with self.subTest(shown(thing)):
                self.assertIs(shows_blame(BOOK, QUESTION, prices, pair, thing), False)
                self.assertIs(shows_blame(BOOK, QUESTION, prices, pair, ("none", thing)), False)
                for at in range(5):
                    other = told[:at] + (thing,) + told[at + 1:]
                    self.assertIs(shows_blame(BOOK, QUESTION, prices, pair, other), references.same(other, told))
                for paper in (thing, (thing,), (thing, thing), (told[4][0][0], thing), (thing, told[4][0][1])):
                    other = told[:4] + ((paper,) + told[4][1:],)
                    self.assertIs(shows_blame(BOOK, QUESTION, prices, pair, other), references.same(other, told))


class ErrorTest(unittest.TestCase):
    def refuse(self, expected, *arguments):
        for function in (blame, lambda *told: shows_blame(*told, None), lambda *told: shows_blame(*told, ("none", ()))):
            self.assertEqual(raised(function, *arguments), expected)

    def kind(self, kind, *arguments):
        for function in (blame, lambda *told: shows_blame(*told, ("none", ()))):
            self.assertEqual(raised(function, *arguments)[0], kind, arguments)

    def test_no_question(self):
        for question in ANY_OBJECTS + [(("x",), QUESTION[1]), ((), (("a", ("x", "y")),)), ((), (("c", ("x",)),))]:
            if question != ((), (("a", (1,)),)):
                self.kind(NoQuestion, BOOK, question, None, None)

    def test_no_price(self):
        for prices in ANY_OBJECTS + [{"a": 1}, {"a": 1, "b": 0}, {"a": 1, "b": 1, "c": 1}]:
            self.kind(NoPrice, BOOK, QUESTION, prices, None)

    def test_no_row(self):
        wrong = ANY_OBJECTS + [("a", (3,)), ("b", (1,)), ("c", (1,)), ["a", (1,)], ("a", [1]), ("a", (True,)), (("a", (1,)),),
                               ("a", (1,), 1), ("d", (1,))]
        for pair in wrong:
            if pair != ("a", (1,)):
                self.kind(NoRow, {**BOOK, "d": (1, ((1,),))}, QUESTION, {"a": 1, "b": 1}, pair)
        self.kind(NoRow, BOOK, QUESTION, {"a": None, "b": 1}, ("a", (1,)))
        large = {"a": (1, SIXTY), "b": (2, ()), "c": (1, SIXTY)}
        question = ((), (("a", ("x",)), ("c", ("y",)), ("b", ("x", "y"))))
        self.kind(NoRow, large, question, dict.fromkeys("abc", 1), ("b", (1, 1)))

    def test_no_line_goes_ahead_of_too_many(self):
        book = {"r": (2, ((1, 1),)), "s": (2, ((1, 1),)), "t": (2, ((1, 1),)), "a": (1, SIXTY), "b": (1, SIXTY), "c": (2, ())}
        question = ((), (("a", ("x",)), ("b", ("y",)), ("c", ("x", "y"))) + TRIANGLE_ATOMS)
        prices = dict.fromkeys("abcrst", 1)
        kind, fields = raised(blame, book, question, prices, ("r", (1, 1)))
        self.assertEqual((kind, fields["paper"][0]), (NoLine, ("r", "s", "t")))
        self.assertIs(references.judge_triad(question, ("r", "s", "t"), fields["paper"]), True)
        much = (TooMany, {"limit": 2000})
        self.assertEqual(raised(shows_blame, book, question, prices, ("r", (1, 1)), ("none", ())), much)
        # The piece of a has a line; that of r is not asked.
        self.refuse(much, book, question, prices, ("a", (1,)))

    def test_a_line_of_all_loose_tables_is_asked(self):
        question = ((), TRIANGLE_ATOMS + (("u", ("p",)),))
        book = {"r": (2, ((1, 1),)), "s": (2, ((1, 1),)), "t": (2, ((1, 1),)), "u": (1, ((1,),))}
        prices = dict.fromkeys("rstu", 1)
        self.assertEqual(raised(blame, book, question, prices, ("u", (1,)))[1]["paper"][0], ("r", "s", "t"))
        self.assertIsNone(raised(blame, book, question, {**prices, "t": None}, ("u", (1,))))

    def test_too_many_ways_of_any_piece(self):
        book = {"a": (1, SIXTY), "b": (1, SIXTY), "c": (2, ()), "d": (1, ((1,),)), "e": (1, ())}
        atoms = (("a", ("x",)), ("b", ("y",)), ("c", ("x", "y")))
        much = (TooMany, {"limit": 2000})
        for question in (((), atoms), ((), atoms + (("d", ("z",)),)), ((), (("d", (1,)), ("e", (1,))) + atoms)):
            prices = {table: 1 for table, _ in question[1]}
            self.refuse(much, book, question, prices, ("a", (1,)))
            if "d" in prices:
                self.refuse(much, book, question, prices, ("d", (1,)))

    def test_too_many_sets(self):
        book = {"a": (1, ((1,), (2,))), "b": (2, tuple((1, k) for k in range(31))), "c": (2, ((1, 1), (1, 2)))}
        question = ((), QUESTION[1] + (("c", ("x", "z")),))
        self.assertEqual(31 * 2, 62)
        self.refuse((TooMany, {"limit": 60}), book, question, {"a": 1, "b": 1, "c": 1}, ("a", (1,)))
        self.assertIsNone(raised(blame, book, question, {"a": 1, "b": 1, "c": None}, ("a", (1,))))
        self.assertIsNone(raised(blame, book, question, {"a": 1, "b": 1, "c": 1}, ("b", (1, 5))))
        self.assertIsNone(raised(blame, book, question, {"a": 1, "b": 1, "c": 1}, ("a", (2,))))
        fewer = {**book, "b": (2, book["b"][1][:30])}
        self.assertEqual(len(blame(fewer, question, {"a": 1, "b": 1, "c": 1}, ("a", (1,)))[4]), 60)
        # There are none if the question does not hold.
        more = {**book, "d": (1, ())}
        gone = ((), question[1] + (("d", ("u",)),))
        self.assertEqual(blame(more, gone, dict.fromkeys("abcd", 1), ("a", (1,))), ("none", ()))
        self.assertIs(shows_blame(more, gone, dict.fromkeys("abcd", 1), ("a", (1,)), ("none", ())), True)

    def test_too_many_ways_go_ahead_of_too_many_sets(self):
        book = {"a": (1, ((1,),)), "b": (2, tuple((1, k) for k in range(60))), "c": (2, tuple((1, k) for k in range(40)))}
        question = ((), QUESTION[1] + (("c", ("x", "z")),))
        prices = dict.fromkeys("abc", 1)
        self.refuse((TooMany, {"limit": 2000}), book, question, prices, ("a", (1,)))
        book["c"] = (2, book["c"][1][:30])
        self.refuse((TooMany, {"limit": 60}), book, question, prices, ("a", (1,)))


class ArgumentsTest(unittest.TestCase):
    def test_no_argument_is_modified(self):
        for _, book, question, prices, pair in cases(6000, 60):
            told = keeps_arguments(self, blame, book, question, prices, pair)
            keeps_arguments(self, shows_blame, book, question, prices, pair, told)
            kept = copy.deepcopy(told)
            book.clear()
            prices.clear()
            self.assertEqual(told, kept)


if __name__ == "__main__":
    unittest.main()
