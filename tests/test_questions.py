import copy
import unittest

from answercut import questions
from answercut.errors import NoAnswer, NoPrice, NoQuestion
from answercut.questions import answers, holds, is_question, is_way, names_of, need_closed, need_prices, need_question
from answercut.questions import part_of, pieces, put_answer, rows_of, ways
from oddities import NEVER_RIGHT, ANY_OBJECTS, shown

BIG = 10 ** 30
SIX_ATOMS = tuple((f"t{k}", ("x",)) for k in range(6))
EIGHT_NAMES = (("a", ("n1", "n2", "n3", "n4")), ("b", ("n5", "n6", "n7", "n8")))


class InterfaceTest(unittest.TestCase):
    def test_functions_are_defined_in_this_file(self):
        listed = (
            is_question, need_question, need_closed, need_prices, names_of, pieces, part_of, ways, answers, holds,
            rows_of, is_way, put_answer,
        )
        self.assertEqual({each.__module__ for each in listed}, {questions.__name__})

    def test_example(self):
        book = {"a": (2, ((1, 5), (2, 5), (2, 6))), "b": (1, ((5,), (7,))), "c": (1, ((9,),))}
        question = (("x",), (("a", ("x", "y")), ("b", ("y",)), ("c", (9,))))
        self.assertEqual(answers(book, question), [(1,), (2,)])
        self.assertEqual(ways(book, question), [(1, 5), (2, 5)])
        self.assertEqual(pieces(question), (("a", "b"), ("c",)))
        self.assertEqual(rows_of(question, (1, 5)), (("a", (1, 5)), ("b", (5,)), ("c", (9,))))
        self.assertEqual(put_answer(question, (2,)), ((), (("a", (2, "y")), ("b", ("y",)), ("c", (9,)))))


class IsQuestionTest(unittest.TestCase):
    def right(self, *things):
        for thing in things:
            with self.subTest(shown(thing)):
                self.assertIs(is_question(thing), True)

    def wrong(self, *things):
        for thing in things:
            with self.subTest(shown(thing)):
                self.assertIs(is_question(thing), False)

    def test_questions(self):
        self.right(
            ((), (("a", ("x",)),)),
            (("x",), (("a", ("x",)),)),
            (("y", "x"), (("a", ("x", "y")),)),
            ((), (("a", (0,)),)),
            ((), (("a", (BIG,)),)),
            ((), (("b", ("x", "x", 5)), ("a", (5, "x")))),
            (("a",), (("a", ("a",)),)),
            ((), (("a", ("x", "y", "z", "u", "v", "w")),)),
            ((), SIX_ATOMS),
            (("x",), SIX_ATOMS),
            ((), EIGHT_NAMES),
            (("n8", "n1", "n2", "n3", "n4", "n5", "n6", "n7"), EIGHT_NAMES),
            ((), EIGHT_NAMES + (("c", ("n1", "n8")),)),
            ((), (("abcdefgh", ("abcdefgh",)),)),
        )

    def test_wrong_form(self):
        atoms = (("a", ("x",)),)
        self.wrong(
            (), ((),), (atoms,), ((), atoms, ()), [(), atoms], ([], atoms), ((), [("a", ("x",))]), ((), None),
            (None, atoms), ("", atoms), ({}, atoms), ((), {"a": ("x",)}), {(): atoms}, ((), "ab"), (0, atoms),
            ((), atoms[0]), "ab", None, True, 1,
        )
        self.wrong(*NEVER_RIGHT)

    def test_wrong_number_of_atoms(self):
        self.wrong(((), ()), ((), SIX_ATOMS + (("a", ("x",)),)))

    def test_wrong_atoms(self):
        for atom in (
            None, True, 1, "ab", ("a",), ("a", ("x",), ()), ["a", ("x",)], {"a": ("x",), "b": ("x",)},
            ("A", ("x",)), ("", ("x",)), ("abcdefghi", ("x",)), ("1", ("x",)), (1, ("x",)), (None, ("x",)),
            (["a"], ("x",)), (("a",), ("x",)), ({}, ("x",)), ("a", ["x"]), ("a", "x"), ("a", None), ("a", 1),
            ("a", {"x": 1}), ("a", ()), ("a", ("x",) * 7), ("a", (True,)), ("a", (False,)), ("a", (None,)),
            ("a", (-1,)), ("a", (BIG + 1,)), ("a", ("X",)), ("a", ("",)), ("a", ("x", "abcdefghi")), ("a", ("1",)),
            ("a", (("x",),)), ("a", (["x"],)), ("a", ({},)),
        ):
            self.wrong(((), (atom,)), ((), (("z", ("x",)), atom)), ((), (atom, ("z", ("x",)))))

    def test_table_twice(self):
        self.wrong(((), (("a", ("x",)), ("a", ("x",)))), ((), (("a", ("x",)), ("b", ("x",)), ("a", ("y", "z")))))

    def test_nine_names(self):
        self.wrong(((), EIGHT_NAMES + (("c", ("n9",)),)), ((), EIGHT_NAMES[:1] + (("b", ("n5", "n6", "n7", "n8", "n9")),)))

    def test_wrong_head(self):
        for head in (
            ("y",), ("x", "x"), ("x", "z", "x"), ("x", "y"), (5,), (True,), (None,), (["x"],), (("x",),), ({},),
            ["x"], "x", None, {"x": 1}, ("X",), ("a",), (("x", "z"),),
        ):
            self.wrong((head, (("a", ("x", "z", 5)),)))


class NeedQuestionTest(unittest.TestCase):
    book = {"a": (1, ((1,),)), "b": (2, ())}

    def test_fits(self):
        for question in (
            ((), (("a", ("x",)),)), (("x",), (("b", ("x", "x")),)), (("y",), (("b", ("x", "y")), ("a", (7,)))),
        ):
            self.assertIsNone(need_question(self.book, question))

    def test_no_question(self):
        for thing in ANY_OBJECTS + [((), ()), ((), (("a", (True,)),)), (("y",), (("a", ("x",)),))]:
            if thing not in [((), (("a", (1,)),)), (("x",), (("a", ("x",)),))]:
                for function in (need_question, need_closed, ways, answers, holds):
                    with self.assertRaises(NoQuestion):
                        function(self.book, thing)

    def test_question_that_does_not_fit(self):
        for atoms in (
            (("c", ("x",)),), (("a", ("x", "y")),), (("b", ("x",)),), (("b", ("x", "y", "z")),),
            (("a", ("x",)), ("c", ("x",))), (("a", ("x",)), ("b", ("x",))), (("c", ("x",)), ("a", ("x",))),
        ):
            for head in ((), ("x",)):
                for function in (need_question, need_closed, ways, answers, holds):
                    with self.assertRaises(NoQuestion):
                        function(self.book, (head, atoms))

    def test_empty_book(self):
        with self.assertRaises(NoQuestion):
            need_question({}, ((), (("a", ("x",)),)))

    def test_closed(self):
        self.assertIsNone(need_closed(self.book, ((), (("a", ("x",)), ("b", ("x", "y"))))))
        for head in (("x",), ("y", "x")):
            with self.assertRaises(NoQuestion):
                need_closed(self.book, (head, (("a", ("x",)), ("b", ("x", "y")))))


class NeedPricesTest(unittest.TestCase):
    question = (("x",), (("b", ("x",)), ("a", ("x",))))

    def test_prices(self):
        for prices in (
            {"a": 1, "b": BIG}, {"b": 2, "a": None}, {"a": None, "b": None}, {"b": 10 ** 29, "a": 1},
        ):
            self.assertIsNone(need_prices(self.question, prices))
        self.assertIsNone(need_prices(((), (("a", (5,)),)), {"a": 3}))

    def test_wrong_price(self):
        for price in NEVER_RIGHT + [0, -1, BIG + 1, True, False, "1", "firm", (1,), [1], {}, ()]:
            if price is not None:
                for prices in ({"a": price, "b": 1}, {"a": 1, "b": price}, {"a": None, "b": price}):
                    with self.assertRaises(NoPrice):
                        need_prices(self.question, prices)

    def test_wrong_tables(self):
        for prices in (
            {}, {"a": 1}, {"b": 1}, {"a": 1, "c": 1}, {"a": 1, "b": 1, "c": 1}, {"a": 1, "b": 1, "x": None},
            {"a": 1, "b": 1, 1: 1}, {"a": 1, None: 1}, {"a": 1, ("b",): 1}, {"A": 1, "B": 1}, {0: 1, 1: 1},
        ):
            with self.assertRaises(NoPrice):
                need_prices(self.question, prices)

    def test_no_dict(self):
        for prices in ANY_OBJECTS + [(("a", 1), ("b", 1)), [("a", 1), ("b", 1)], ["a", "b"], ("a", "b"), "ab"]:
            with self.assertRaises(NoPrice):
                need_prices(self.question, prices)


class NamesTest(unittest.TestCase):
    def test_ascending_and_once(self):
        for atoms, names in (
            ((("a", ("z", "x")), ("b", ("y", "x"))), ("x", "y", "z")),
            ((("a", ("x", "x", 5)),), ("x",)),
            ((("a", (5, 6)),), ()),
            ((("a", (5,)), ("b", ("b",))), ("b",)),
            ((("a", ("x2", "x10", "x1", "x")),), ("x", "x1", "x10", "x2")),
            ((), ()),
        ):
            self.assertEqual(names_of(((), atoms)), names)

    def test_head_does_not_matter(self):
        self.assertEqual(names_of((("z", "y"), (("a", ("z", "y", "x")),))), ("x", "y", "z"))

    def test_more_than_eight_names(self):
        self.assertEqual(len(names_of(((), EIGHT_NAMES + (("c", ("n9",)),)))), 9)


class PiecesTest(unittest.TestCase):
    def test_pieces(self):
        for atoms, told in (
            ((("a", ("x",)),), (("a",),)),
            ((("b", ("x",)), ("a", ("x",))), (("b", "a"),)),
            ((("b", ("x",)), ("a", ("y",))), (("b",), ("a",))),
            ((("a", ("x",)), ("b", ("y",)), ("c", ("y", "x"))), (("a", "b", "c"),)),
            ((("c", ("y",)), ("b", ("x",)), ("a", ("y",))), (("c", "a"), ("b",))),
            ((("f", ("x", "y")), ("e", ("z",)), ("d", ("u",)), ("c", ("y", "v")), ("b", ("z", "z")), ("a", ("v",))),
             (("f", "c", "a"), ("e", "b"), ("d",))),
            ((("a", ("x",)), ("b", ("y",)), ("c", ("z",)), ("d", ("x", "y", "z"))), (("a", "b", "c", "d"),)),
            ((("a", ("x",)), ("b", ("y",)), ("c", ("z",)), ("d", ("z", "x")), ("e", ("y",))),
             (("a", "c", "d"), ("b", "e"))),
            ((("a", ("x",)), ("b", ("y",)), ("c", ("x",)), ("d", ("y", "x"))), (("a", "b", "c", "d"),)),
            ((), ()),
        ):
            with self.subTest(atoms):
                self.assertEqual(pieces(((), atoms)), told)

    def test_atoms_without_names_are_pieces(self):
        self.assertEqual(pieces(((), (("a", (5,)),))), (("a",),))
        atoms = (("a", (5,)), ("b", ("x", 5)), ("c", (5,)), ("d", (5, "x")))
        self.assertEqual(pieces(((), atoms)), (("a",), ("b", "d"), ("c",)))

    def test_integers_and_tables_are_no_names(self):
        self.assertEqual(pieces(((), (("a", ("x", 5)), ("b", ("y", 5)))),), (("a",), ("b",)))
        self.assertEqual(pieces(((), (("a", ("b",)), ("b", ("a",)))),), (("a",), ("b",)))

    def test_head_does_not_matter(self):
        self.assertEqual(pieces((("x", "y"), (("a", ("x",)), ("b", ("y",))))), (("a",), ("b",)))


class PartOfTest(unittest.TestCase):
    question = (("x",), (("c", ("x", 5)), ("a", ("x",)), ("b", ("y",))))

    def test_parts(self):
        self.assertEqual(part_of(self.question, ("a",)), ((), (("a", ("x",)),)))
        self.assertEqual(part_of(self.question, ("c", "b")), ((), (("c", ("x", 5)), ("b", ("y",)))))
        self.assertEqual(part_of(self.question, ("c", "a", "b")), ((), self.question[1]))

    def test_order_of_the_question(self):
        self.assertEqual(part_of(self.question, ("b", "a", "c")), ((), self.question[1]))

    def test_nothing(self):
        self.assertEqual(part_of(self.question, ()), ((), ()))


class RowsOfTest(unittest.TestCase):
    def test_rows(self):
        question = (("x",), (("b", ("y", 7, "x", "y")), ("a", ("x",)), ("c", (0, BIG))))
        self.assertEqual(rows_of(question, (3, 4)), (("b", (4, 7, 3, 4)), ("a", (3,)), ("c", (0, BIG))))

    def test_no_names(self):
        self.assertEqual(rows_of(((), (("c", (9,)),)), ()), (("c", (9,)),))

    def test_names_are_taken_ascending(self):
        question = ((), (("a", ("z", "y", "x")),))
        self.assertEqual(rows_of(question, (1, 2, 3)), (("a", (3, 2, 1)),))


class IsWayTest(unittest.TestCase):
    book = {"a": (2, ((0, 1), (1, 1), (1, 5), (2, 5))), "b": (1, ((1,), (5,))), "c": (1, ()), "d": (1, ((9,),))}
    question = (("y",), (("a", ("x", "y")), ("b", ("y",))))

    def test_ways(self):
        for way in ways(self.book, self.question):
            self.assertIs(is_way(self.book, self.question, way), True)
        self.assertIs(is_way(self.book, ((), (("d", (9,)),)), ()), True)
        self.assertIs(is_way(self.book, ((), (("a", ("x", "x")),)), (1,)), True)
        self.assertIs(is_way(self.book, ((), (("a", ("y", "x")),)), (5, 2)), True)

    def test_no_ways(self):
        for thing in ANY_OBJECTS + [
            (), (1,), (1, 1, 1), (1, 2), (5, 1), (2, 1), [1, 1], [2, 5], "15", {1: 1, 5: 5}, (True, 1), (1, True),
            (False, 1), (0, True), ("1", "1"), (None, 5), ((1,), 5), ([1], 5), (1, {}), (-1, 1), (BIG + 1, 1),
        ]:
            with self.subTest(shown(thing)):
                self.assertIs(is_way(self.book, self.question, thing), False)

    def test_integers_as_parts(self):
        self.assertIs(is_way(self.book, ((), (("d", (8,)),)), ()), False)
        self.assertIs(is_way(self.book, ((), (("a", (2, "y")),)), (5,)), True)
        self.assertIs(is_way(self.book, ((), (("a", (2, "y")),)), (1,)), False)
        self.assertIs(is_way(self.book, ((), (("a", ("x", "x")),)), (5,)), False)

    def test_table_without_rows(self):
        self.assertIs(is_way(self.book, ((), (("c", ("x",)),)), (1,)), False)
        self.assertIs(is_way(self.book, ((), (("b", ("x",)), ("c", ("x",)))), (1,)), False)

    def test_each_atom_counts(self):
        question = ((), (("b", ("x",)), ("d", ("y",))))
        told = [way for way in ((1, 9), (1, 8), (2, 9), (2, 8)) if is_way(self.book, question, way)]
        self.assertEqual(told, [(1, 9)])


class PutAnswerTest(unittest.TestCase):
    question = (("y", "x"), (("b", ("y", 7, "x", "y")), ("a", ("z", "x"))))

    def test_put(self):
        self.assertEqual(put_answer(self.question, (3, 4)), ((), (("b", (3, 7, 4, 3)), ("a", ("z", 4)))))
        self.assertEqual(put_answer(self.question, (0, BIG)), ((), (("b", (0, 7, BIG, 0)), ("a", ("z", BIG)))))

    def test_closed_question(self):
        self.assertEqual(put_answer(((), (("a", ("x",)),)), ()), ((), (("a", ("x",)),)))

    def test_no_answer(self):
        for answer in NEVER_RIGHT + [
            (), (1,), (1, 2, 3), [1, 2], "xy", {1: 1, 2: 2}, (1, True), (False, 1), (1, None), (1, "2"), ("x", "y"),
            (-1, 0), (0, BIG + 1), (1, (2,)), (1, [2]), ([], {}), 1, None,
        ]:
            with self.subTest(shown(answer)):
                with self.assertRaises(NoAnswer):
                    put_answer(self.question, answer)

    def test_no_answer_of_a_closed_question(self):
        for answer in (None, [], (1,), {}, "", 0, False):
            with self.assertRaises(NoAnswer):
                put_answer(((), (("a", ("x",)),)), answer)


class ArgumentsTest(unittest.TestCase):
    question = (("x",), (("a", ("x", "y")), ("b", ("y",))))

    def test_nothing_is_modified(self):
        book = {"a": (2, ((1, 5), (2, 5))), "b": (1, ((5,),))}
        prices = {"b": None, "a": 4}
        before = copy.deepcopy((book, prices))
        for function in (need_question, ways, answers, holds):
            function(book, self.question)
        need_closed(book, part_of(self.question, ("a", "b")))
        need_prices(self.question, prices)
        is_way(book, self.question, (1, 5))
        self.assertEqual((book, prices), before)
        self.assertEqual([list(book), list(prices)], [["a", "b"], ["b", "a"]])

    def test_judged_things_are_not_modified(self):
        things = copy.deepcopy(ANY_OBJECTS)
        for thing in things:
            is_question(thing)
            is_way({"a": (1, ())}, ((), (("a", ("x",)),)), thing)
        self.assertEqual(things, ANY_OBJECTS)

    def test_each_list_is_new(self):
        book = {"a": (2, ((1, 5), (2, 5))), "b": (1, ((5,),))}
        for function, told in ((ways, [(1, 5), (2, 5)]), (answers, [(1,), (2,)])):
            first = function(book, self.question)
            first.append("more")
            self.assertEqual(function(book, self.question), told)
            self.assertIsNot(function(book, self.question), function(book, self.question))

    def test_what_was_passed_may_be_changed(self):
        book = {"a": (2, ((1, 5), (2, 5))), "b": (1, ((5,),))}
        told = ways(book, self.question)
        book["b"] = (1, ())
        self.assertEqual(told, [(1, 5), (2, 5)])
        self.assertEqual(ways(book, self.question), [])


if __name__ == "__main__":
    unittest.main()
