import copy
import unittest

from answercut import books
from answercut.books import is_book, is_integer, is_name, is_row, is_table, is_worth
from answercut.books import need_row, with_row, without_row, without_rows
from answercut.errors import NoRow, NoTable, RowTaken, TooMany
from oddities import ANY_OBJECTS, NEVER_RIGHT, shown

BIG = 10 ** 30
SIXTY = tuple((k,) for k in range(60))


class InterfaceTest(unittest.TestCase):
    def test_functions_are_defined_in_this_file(self):
        listed = (
            is_integer, is_name, is_worth, is_row, is_table, is_book, need_row, with_row, without_row, without_rows,
        )
        self.assertEqual({each.__module__ for each in listed}, {books.__name__})

    def test_example(self):
        book = with_row({"a": (2, ((3, 4),))}, "a", (1, 9))
        self.assertEqual(book, {"a": (2, ((1, 9), (3, 4)))})
        self.assertEqual(without_rows(book, (("a", (3, 4)), ("b", (1,)))), {"a": (2, ((1, 9),))})


class KindsTest(unittest.TestCase):
    def judged(self, judge, right, wrong):
        for thing in right:
            with self.subTest(judge=judge.__name__, right=shown(thing)):
                self.assertIs(judge(thing), True)
        for thing in wrong:
            with self.subTest(judge=judge.__name__, wrong=shown(thing)):
                self.assertIs(judge(thing), False)

    def test_integer(self):
        right = [0, 1, -1, BIG, -BIG, BIG + 1, 2 ** 200, 10 ** 5000]
        self.judged(is_integer, right, [True, False, None, "1", (1,), [1], {1: 1}, ()])
        self.judged(is_integer, [], [thing for thing in ANY_OBJECTS if type(thing) is not int])

    def test_name(self):
        right = ["a", "z", "a0", "z9", "abcdefgh", "a1234567", "row", "table"]
        wrong = ["", "0", "1a", "9", "A", "aB", "abcdefghi", "a12345678", "a b", " a", "a ", "a_", "a-b", "_a"]
        signs = ["\u00e4", "a\u00df", "\u0430", "a\u0661", "a\u00b2", "a\n", "a`", "a{", "a/", "a:", "@", "`", "{"]
        self.judged(is_name, right, wrong + signs)
        self.judged(is_name, [], NEVER_RIGHT + [0, 1, (), ("a",), ["a"], {"a": 1}])

    def test_worth(self):
        right = [0, 1, BIG - 1, BIG]
        wrong = [-1, BIG + 1, -BIG, True, False, None, "0", "a", (0,), [0], {}]
        self.judged(is_worth, right, wrong + NEVER_RIGHT)

    def test_row(self):
        right = [(0,), (BIG,), (0, BIG), (1, 1), (1, 2, 3, 4, 5, 6), (6, 5, 4, 3, 2, 1), (BIG,) * 6]
        wrong = [
            (), (1, 2, 3, 4, 5, 6, 7), (-1,), (BIG + 1,), (1, -1), (1, BIG + 1), (True,), (1, False), (None,),
            ("1",), (1, "a"), [1], [1, 2], 1, "1", {1: 1}, ((1,),), (1, (2,)), ([1],), None,
        ]
        self.judged(is_row, right, wrong + NEVER_RIGHT)

    def test_table(self):
        right = [
            (1, ()), (6, ()), (1, ((0,),)), (1, ((0,), (BIG,))), (2, ((1, 9), (2, 0))), (2, ((1, 1), (1, 2))),
            (6, ((1, 2, 3, 4, 5, 6),)), (1, SIXTY),
        ]
        self.judged(is_table, right, [])

    def test_no_table(self):
        wrong_width = [(0, ()), (7, ()), (-1, ()), (True, ()), (True, ((1,),)), (None, ()), ("1", ()), ((1,), ())]
        wrong_rows = [
            (1, []), (1, None), (1, {}), (1, "a"), (1, 1), (1, [(1,)]), (1, ([1],)), (1, (1,)), (1, (None,)),
            (1, ((1, 2),)), (2, ((1,),)), (2, ((1, 2), (3,))), (1, ((True,),)), (1, ((0,), (True,))), (1, ((-1,),)),
            (1, ((BIG + 1,),)), (1, (("a",),)), (1, ((),)), (7, ((1, 2, 3, 4, 5, 6, 7),)), (0, ((),)),
        ]
        wrong_order = [
            (1, ((2,), (1,))), (1, ((1,), (1,))), (2, ((1, 2), (1, 1))), (2, ((1, 1), (1, 1))),
            (1, ((1,), (3,), (2,))), (1, ((1,), (2,), (2,))), (1, ((1,), (None,))), (1, (("a",), (1,))),
        ]
        wrong_form = [(), (1,), (1, (), ()), [1, ()], "ab", {1: ()}, {}, None, 1, ((), 1), (1, SIXTY + ((60,),))]
        self.judged(is_table, [], wrong_width + wrong_rows + wrong_order + wrong_form + NEVER_RIGHT)

    def test_book(self):
        eight = {f"t{k}": (1, ()) for k in range(8)}
        full = {f"t{k}": (1, SIXTY) for k in range(8)}
        self.judged(is_book, [{}, {"a": (1, ())}, {"b": (2, ((1, 2),)), "a": (1, ((1,),))}, eight, full], [])

    def test_no_book(self):
        nine = {f"t{k}": (1, ()) for k in range(9)}
        wrong_keys = [{"A": (1, ())}, {"": (1, ())}, {1: (1, ())}, {None: (1, ())}, {True: (1, ())}, {("a",): (1, ())}]
        wrong_tables = [{"a": None}, {"a": [1, ()]}, {"a": (1, []), "b": (1, ())}, {"b": (1, ()), "a": (1, ((True,),))}]
        wrong_form = [nine, [], (), (("a", (1, ())),), [("a", (1, ()))], "a", 1, None, True, (1, ())]
        self.judged(is_book, [], wrong_keys + wrong_tables + wrong_form + NEVER_RIGHT)


class NeedRowTest(unittest.TestCase):
    book = {"a": (2, ((1, 2),)), "b": (1, ())}

    def test_fits(self):
        for table, row in (("a", (1, 2)), ("a", (0, BIG)), ("b", (7,))):
            self.assertIsNone(need_row(self.book, table, row))

    def test_no_table(self):
        for table in ANY_OBJECTS + ["c", "A", ("b",), ["b"], {"b": 1}, 0]:
            if table not in ("a", "b"):
                with self.assertRaises(NoTable):
                    need_row(self.book, table, (1, 2))

    def test_no_table_in_an_empty_book(self):
        with self.assertRaises(NoTable):
            need_row({}, "a", (1,))

    def test_no_row(self):
        for row in NEVER_RIGHT + [(), (1,), (1, 2, 3), [1, 2], "ab", (1, True), (1, None), (-1, 2), (1, BIG + 1), 1]:
            with self.assertRaises(NoRow):
                need_row(self.book, "a", row)

    def test_table_goes_ahead_of_row(self):
        for function in (need_row, with_row, without_row):
            for table in ("c", None, ["a"]):
                for row in (None, (1,), [1, 2], (1, True)):
                    with self.assertRaises(NoTable):
                        function(self.book, table, row)


class WithRowTest(unittest.TestCase):
    def test_row_comes_to_its_place(self):
        book = {"b": (1, ((2,), (4,))), "a": (1, ()), "c": (2, ((1, 1),))}
        for row, rows in (((1,), (1, 2, 4)), ((3,), (2, 3, 4)), ((5,), (2, 4, 5)), ((10,), (2, 4, 10))):
            told = with_row(book, "b", row)
            self.assertEqual(told, {"b": (1, tuple((k,) for k in rows)), "a": (1, ()), "c": (2, ((1, 1),))})
            self.assertEqual(list(told), ["b", "a", "c"])

    def test_row_comes_to_a_table_without_rows(self):
        self.assertEqual(with_row({"a": (6, ())}, "a", (6, 5, 4, 3, 2, 0)), {"a": (6, ((6, 5, 4, 3, 2, 0),))})

    def test_no_row_goes_ahead_of_too_many(self):
        book = {"a": (1, SIXTY)}
        for row in (None, (1, 2), (True,), [1], (-1,), (BIG + 1,)):
            with self.assertRaises(NoRow):
                with_row(book, "a", row)

    def test_row_taken(self):
        with self.assertRaises(RowTaken):
            with_row({"a": (2, ((1, 2), (1, 3)))}, "a", (1, 3))

    def test_row_taken_goes_ahead_of_too_many(self):
        for row in ((0,), (59,)):
            with self.assertRaises(RowTaken):
                with_row({"a": (1, SIXTY)}, "a", row)

    def test_sixtieth_row_and_one_more(self):
        book = with_row({"a": (1, SIXTY[1:])}, "a", (0,))
        self.assertEqual(book, {"a": (1, SIXTY)})
        with self.assertRaises(TooMany) as caught:
            with_row(book, "a", (60,))
        self.assertEqual(caught.exception.limit, 60)

    def test_other_full_tables_do_not_matter(self):
        book = with_row({"a": (1, SIXTY), "b": (1, ())}, "b", (1,))
        self.assertEqual(book, {"a": (1, SIXTY), "b": (1, ((1,),))})


class WithoutRowTest(unittest.TestCase):
    def test_row_goes(self):
        book = {"b": (1, ((2,), (4,), (6,))), "a": (1, ((4,),))}
        for row, rows in (((2,), ((4,), (6,))), ((4,), ((2,), (6,))), ((6,), ((2,), (4,)))):
            told = without_row(book, "b", row)
            self.assertEqual(told, {"b": (1, rows), "a": (1, ((4,),))})
            self.assertEqual(list(told), ["b", "a"])
        self.assertEqual(without_row(book, "a", (4,)), {"b": (1, ((2,), (4,), (6,))), "a": (1, ())})

    def test_row_that_is_not_there(self):
        for book in ({"a": (1, ())}, {"a": (1, ((2,),))}, {"a": (1, ((2,),)), "b": (1, ((1,),))}):
            with self.assertRaises(NoRow):
                without_row(book, "a", (1,))

    def test_no_row(self):
        for row in (None, True, (True,), [1], (1, 1), (), 1):
            with self.assertRaises(NoRow):
                without_row({"a": (1, ((1,),))}, "a", row)


class WithoutRowsTest(unittest.TestCase):
    book = {"b": (2, ((1, 2), (1, 3), (2, 2))), "a": (1, ((1,), (2,)))}

    def test_rows_go(self):
        told = without_rows(self.book, (("b", (2, 2)), ("a", (1,)), ("b", (1, 2))))
        self.assertEqual(told, {"b": (2, ((1, 3),)), "a": (1, ((2,),))})
        self.assertEqual(list(told), ["b", "a"])

    def test_no_pairs(self):
        self.assertEqual(without_rows(self.book, ()), self.book)
        self.assertEqual(without_rows({}, (("a", (1,)),)), {})

    def test_all_rows(self):
        pairs = tuple((table, row) for table in self.book for row in self.book[table][1])
        self.assertEqual(without_rows(self.book, pairs), {"b": (2, ()), "a": (1, ())})

    def test_pairs_that_are_not_there(self):
        for pairs in ((("c", (1,)),), (("a", (3,)),), (("a", (1, 2)),), (("b", (1,)),), (("a", (2, 2)), ("b", (2,)))):
            self.assertEqual(without_rows(self.book, pairs), self.book)

    def test_the_same_row_of_two_tables(self):
        book = {"a": (1, ((1,),)), "b": (1, ((1,),))}
        self.assertEqual(without_rows(book, (("b", (1,)),)), {"a": (1, ((1,),)), "b": (1, ())})

    def test_the_same_pair_twice(self):
        self.assertEqual(without_rows({"a": (1, ((1,),))}, (("a", (1,)), ("a", (1,)))), {"a": (1, ())})


class ArgumentsTest(unittest.TestCase):
    calls = (
        (with_row, ("a", (3,))),
        (without_row, ("a", (2,))),
        (without_rows, ((("a", (2,)), ("b", (9,))),)),
        (without_rows, ((),)),
    )

    def test_nothing_is_modified_and_what_is_returned_is_new(self):
        for function, rest in self.calls:
            book = {"a": (1, ((1,), (2,))), "b": (1, ((5,),))}
            before = copy.deepcopy(book)
            told = function(book, *rest)
            kept = copy.deepcopy(told)
            self.assertEqual(book, before)
            self.assertIsNot(told, book)
            book["a"] = (1, ())
            book["z"] = (1, ())
            del book["b"]
            self.assertEqual(told, kept)
            self.assertEqual(list(told), ["a", "b"])

    def test_a_refused_call_changes_nothing(self):
        book = {"a": (1, SIXTY)}
        for function, row in ((with_row, (0,)), (with_row, (60,)), (without_row, (60,)), (with_row, None)):
            with self.assertRaises(ValueError):
                function(book, "a", row)
            self.assertEqual(book, {"a": (1, SIXTY)})

    def test_more_tables_than_a_book_has_are_read_all_the_same(self):
        book = {f"t{k}": (1, ((k,),)) for k in range(9)}
        self.assertEqual(with_row(book, "t8", (9,))["t8"], (1, ((8,), (9,))))


if __name__ == "__main__":
    unittest.main()
