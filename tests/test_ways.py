import itertools
import unittest

from answercut.books import is_book
from answercut.errors import NoQuestion, TooMany
from answercut.questions import answers, holds, is_question, is_way, names_of, need_question, pieces, rows_of, ways

SIXTY = tuple((k,) for k in range(60))
FORTY = tuple((k,) for k in range(40))
FIFTY = tuple((k,) for k in range(50))


def ways_by_trial(book, question):
    """All tuples of integers of the book that make each atom a row, tried one by one."""
    worths = sorted({worth for _, rows in book.values() for row in rows for worth in row})
    names = names_of(question)
    found = []
    for way in itertools.product(worths, repeat=len(names)):
        meant = dict(zip(names, way))
        made = [(table, tuple(meant.get(part, part) for part in parts)) for table, parts in question[1]]
        if all(row in book[table][1] for table, row in made):
            found.append(way)
    return found


def pieces_by_trial(question):
    """The sets of tables that chains join, by widening each table's reach until nothing comes."""
    names = {table: {part for part in parts if isinstance(part, str)} for table, parts in question[1]}
    found = []
    for table in names:
        reach = {table}
        for _ in names:
            reach = {other for other in names if other in reach or any(names[other] & names[each] for each in reach)}
        told = tuple(other for other in names if other in reach)
        if told not in found:
            found.append(told)
    return tuple(found)


class WaysTest(unittest.TestCase):
    book = {
        "a": (2, ((1, 5), (2, 5), (2, 6))),
        "b": (1, ((5,), (7,))),
        "c": (3, ((1, 1, 1), (1, 2, 1), (2, 2, 2), (2, 2, 3))),
        "d": (1, ((9,),)),
        "e": (1, ()),
        "f": (2, ((0, 10 ** 30), (10 ** 30, 10 ** 30))),
    }

    def told(self, atoms, found):
        with self.subTest(atoms):
            self.assertEqual(ways(self.book, ((), atoms)), found)
            self.assertIs(holds(self.book, ((), atoms)), found != [])
            self.assertEqual(answers(self.book, ((), atoms)), [()] if found else [])

    def test_one_atom(self):
        self.told((("a", ("x", "y")),), [(1, 5), (2, 5), (2, 6)])
        self.told((("a", ("y", "x")),), [(5, 1), (5, 2), (6, 2)])
        self.told((("b", ("x",)),), [(5,), (7,)])
        self.told((("f", ("x", "y")),), [(0, 10 ** 30), (10 ** 30, 10 ** 30)])

    def test_several_atoms(self):
        self.told((("a", ("x", "y")), ("b", ("y",))), [(1, 5), (2, 5)])
        self.told((("b", ("y",)), ("a", ("x", "y"))), [(1, 5), (2, 5)])
        self.told((("a", ("x", "y")), ("b", ("z",))), [(1, 5, 5), (1, 5, 7), (2, 5, 5), (2, 5, 7), (2, 6, 5), (2, 6, 7)])
        self.told((("a", ("x", "y")), ("c", ("x", "x", "z"))), [(1, 5, 1), (2, 5, 2), (2, 5, 3), (2, 6, 2), (2, 6, 3)])

    def test_ways_are_ascending_by_names(self):
        self.told((("b", ("z",)), ("a", ("y", "x"))), [(5, 1, 5), (5, 1, 7), (5, 2, 5), (5, 2, 7), (6, 2, 5), (6, 2, 7)])

    def test_the_same_name_several_times(self):
        self.told((("c", ("x", "x", "x")),), [(1,), (2,)])
        self.told((("c", ("x", "y", "x")),), [(1, 1), (1, 2), (2, 2)])
        self.told((("c", ("x", "x", "y")),), [(1, 1), (2, 2), (2, 3)])
        self.told((("a", ("x", "x")),), [])
        self.told((("a", ("x", "y")), ("c", ("x", "x", "x"))), [(1, 5), (2, 5), (2, 6)])
        self.told((("f", ("x", "x")),), [(10 ** 30,)])

    def test_integers_as_parts(self):
        self.told((("a", (2, "y")),), [(5,), (6,)])
        self.told((("a", ("x", 5)), ("b", (7,))), [(1,), (2,)])
        self.told((("a", (1, "y")), ("b", ("y",))), [(5,)])
        self.told((("a", (3, "y")),), [])
        self.told((("f", ("x", 10 ** 30)),), [(0,), (10 ** 30,)])
        self.told((("f", (0, "x")),), [(10 ** 30,)])

    def test_atoms_without_names(self):
        self.told((("d", (9,)),), [()])
        self.told((("d", (8,)),), [])
        self.told((("d", (9,)), ("b", ("x",))), [(5,), (7,)])
        self.told((("d", (8,)), ("b", ("x",))), [])
        self.told((("b", ("x",)), ("d", (8,))), [])
        self.told((("a", (2, 6)), ("d", (9,)), ("b", (7,))), [()])

    def test_table_without_rows(self):
        self.told((("e", ("x",)),), [])
        self.told((("a", ("x", "y")), ("e", ("x",))), [])
        self.told((("e", ("z",)), ("a", ("x", "y"))), [])
        self.told((("d", (9,)), ("e", (9,))), [])

    def test_ascending_by_integers_not_by_texts(self):
        book = {"a": (1, ((2,), (10,), (100,)))}
        self.assertEqual(ways(book, ((), (("a", ("x",)),))), [(2,), (10,), (100,)])


class AnswersTest(unittest.TestCase):
    book = {"a": (2, ((1, 5), (1, 6), (2, 5), (3, 7))), "b": (1, ((5,), (6,)))}
    atoms = (("a", ("x", "y")), ("b", ("y",)))

    def test_a_way_comes_several_times_as_an_answer(self):
        self.assertEqual(answers(self.book, (("x",), self.atoms)), [(1,), (2,)])
        self.assertEqual(answers(self.book, (("y",), self.atoms)), [(5,), (6,)])

    def test_order_of_the_head(self):
        self.assertEqual(answers(self.book, (("x", "y"), self.atoms)), [(1, 5), (1, 6), (2, 5)])
        self.assertEqual(answers(self.book, (("y", "x"), self.atoms)), [(5, 1), (5, 2), (6, 1)])

    def test_no_head(self):
        self.assertEqual(answers(self.book, ((), self.atoms)), [()])
        self.assertEqual(answers(self.book, ((), (("a", ("x", "x")),))), [])

    def test_no_answer(self):
        self.assertEqual(answers({"a": (1, ())}, (("x",), (("a", ("x",)),))), [])

    def test_head_does_not_matter_for_ways(self):
        for head in ((), ("x",), ("y", "x")):
            self.assertEqual(ways(self.book, (head, self.atoms)), [(1, 5), (1, 6), (2, 5)])
            self.assertIs(holds(self.book, (head, self.atoms)), True)


class TrialTest(unittest.TestCase):
    # Each of some atoms for two or three tables, in each order, over one small book.
    book = {
        "a": (1, ((1,), (3,))),
        "b": (2, ((0, 1), (1, 1), (1, 2), (2, 0), (3, 3))),
        "c": (3, ((0, 1, 0), (1, 1, 1), (1, 2, 3), (2, 0, 3), (3, 3, 1))),
    }
    choices = {
        "a": [("x",), ("z",), (1,)],
        "b": [("x", "y"), ("y", "x"), ("x", "x"), ("z", 1), (3, 3), ("z", "u")],
        "c": [("x", "y", "z"), ("y", "y", "x"), ("z", 1, "z"), ("u", "v", "u"), (2, "v", "w"), (0, 1, 0)],
    }

    def questions(self):
        for many in (1, 2, 3):
            for tables in itertools.permutations("abc", many):
                for parts in itertools.product(*[self.choices[table] for table in tables]):
                    yield (), tuple(zip(tables, parts))

    def test_against_trial(self):
        for closed in self.questions():
            self.assertTrue(is_question(closed))
            expected = ways_by_trial(self.book, closed)
            self.assertEqual(ways(self.book, closed), expected)
            self.assertIs(holds(self.book, closed), expected != [])
            self.assertEqual(pieces(closed), pieces_by_trial(closed))
            names = names_of(closed)
            head = names[::-2]
            places = [names.index(name) for name in head]
            told = sorted({tuple(way[place] for place in places) for way in expected})
            self.assertEqual(answers(self.book, (head, closed[1])), told)

    def test_pieces_against_trial(self):
        choices = [("x",), ("y",), ("x", "z"), ("z", "y"), ("u", 5), (5,)]
        for parts in itertools.product(choices, repeat=5):
            closed = ((), tuple(zip("abcde", parts)))
            self.assertEqual(pieces(closed), pieces_by_trial(closed))

    def test_judged_against_trial(self):
        for closed in self.questions():
            names = names_of(closed)
            if len(names) <= 3:
                expected = ways_by_trial(self.book, closed)
                judged = [
                    way for way in itertools.product(range(5), repeat=len(names)) if is_way(self.book, closed, way)
                ]
                self.assertEqual(judged, expected)
                for way in expected:
                    self.assertTrue(all(row in self.book[table][1] for table, row in rows_of(closed, way)))


class TooManyTest(unittest.TestCase):
    def refused(self, function, book, question):
        self.assertTrue(is_book(book))
        with self.assertRaises(TooMany) as caught:
            function(book, question)
        self.assertEqual(caught.exception.limit, 2000)

    def test_two_thousand_ways(self):
        book = {"a": (1, FIFTY), "b": (1, FORTY)}
        question = (("x", "y"), (("a", ("x",)), ("b", ("y",))))
        told = [(j, k) for j in range(50) for k in range(40)]
        self.assertEqual(ways(book, question), told)
        self.assertEqual(answers(book, question), told)
        self.assertIs(holds(book, question), True)

    def test_two_thousand_and_one_ways(self):
        book = {"a": (2, tuple((k // 30, k) for k in range(59))), "b": (2, tuple((k % 2, k) for k in range(60)))}
        joined = ((), (("a", ("x", "y")), ("b", ("x", "z"))))
        self.assertEqual(len(ways(book, joined)), 59 * 30)
        rows = {"a": (1, tuple((k,) for k in range(23))), "b": (1, tuple((k,) for k in range(29)))}
        rows["c"] = (1, ((0,), (1,), (2,)))
        product = (("x",), (("a", ("x",)), ("b", ("y",)), ("c", ("z",))))
        self.assertEqual(23 * 29 * 3, 2001)
        self.refused(ways, rows, product)
        self.refused(answers, rows, product)
        rows["c"] = (1, ((0,), (1,)))
        self.assertEqual(len(ways(rows, product)), 23 * 29 * 2)

    def test_2001_ways_in_one_piece(self):
        linked = tuple((j, k) for j in range(3) for k in range(20))
        book = {"a": (2, linked), "b": (2, tuple((j, k) for j in range(2) for k in range(30)))}
        question = ((), (("a", ("x", "y")), ("b", ("x", "z"))))
        self.assertEqual(len(ways(book, question)), 1200)
        book["c"] = (2, ((0, 0), (1, 0), (1, 1)))
        longer = ((), question[1] + (("c", ("x", "u")),))
        self.assertEqual(len(ways(book, longer)), 1800)
        book["c"] = (2, ((0, 0), (0, 1), (1, 0), (1, 1)))
        for function in (ways, answers, holds):
            self.refused(function, book, longer)

    def test_later_atoms_leave_few_ways_or_none(self):
        crossed = {"a": (1, SIXTY), "b": (1, SIXTY), "c": (2, ((0, 0), (1, 5))), "d": (1, ())}
        few = ((), (("a", ("x",)), ("b", ("y",)), ("c", ("x", "y"))))
        none = ((), (("a", ("x",)), ("b", ("y",)), ("d", ("x",))))
        both = ((), (("a", ("x",)), ("b", ("y",)), ("c", ("x", "y")), ("d", ("x",))))
        for question in (few, none, both):
            for function in (ways, answers):
                self.refused(function, crossed, question)
        self.refused(holds, crossed, few)
        self.refused(holds, crossed, both)
        self.assertIs(holds(crossed, none), False)

    def test_atoms_ahead_leave_few_ways(self):
        book = {"a": (1, SIXTY), "b": (1, SIXTY), "c": (2, ((0, 0), (1, 5))), "d": (1, ())}
        self.assertEqual(ways(book, ((), (("c", ("x", "y")), ("a", ("x",)), ("b", ("y",))))), [(0, 0), (1, 5)])
        self.assertEqual(ways(book, ((), (("d", ("z",)), ("a", ("x",)), ("b", ("y",))))), [])

    def test_holds_goes_piece_by_piece(self):
        book = {f"t{k}": (1, SIXTY) for k in range(6)}
        question = ((), tuple((f"t{k}", (f"x{k}",)) for k in range(6)))
        self.assertIs(holds(book, question), True)
        self.refused(ways, book, question)
        self.refused(answers, book, question)
        book["t5"] = (1, ())
        self.assertIs(holds(book, question), False)
        self.refused(ways, book, question)

    def test_holds_with_a_piece_that_is_too_large(self):
        big = (("a", ("x",)), ("b", ("y",)), ("c", ("x", "y")))
        book = {"a": (1, SIXTY), "b": (1, SIXTY), "c": (2, ((0, 0),)), "d": (1, ()), "e": (1, ((1,),))}
        for atoms in (
            big + (("d", ("z",)),), (("d", ("z",)),) + big, (("d", (1,)),) + big, (("e", ("z",)),) + big,
            big[:1] + (("d", ("z",)),) + big[1:],
        ):
            self.refused(holds, book, ((), atoms))

    def test_a_piece_has_its_atoms_in_their_order(self):
        book = {"a": (1, SIXTY), "b": (1, SIXTY), "c": (2, ((0, 0),)), "e": (1, SIXTY)}
        atoms = (("a", ("x",)), ("e", ("z",)), ("c", ("x", "y")), ("b", ("y",)))
        self.assertIs(holds(book, ((), atoms)), True)
        self.refused(ways, book, ((), atoms))

    def test_no_question_goes_ahead_of_too_many(self):
        book = {"a": (1, SIXTY), "b": (1, SIXTY), "c": (2, ())}
        for atoms in (
            (("a", ("x",)), ("b", ("y",)), ("c", ("x",))), (("a", ("x",)), ("b", ("y",)), ("d", ("x", "y"))),
            (("a", ("x",)), ("b", ("y",)), ("c", ("x", True))), (("a", ("x",)), ("b", ("y",)), ("a", ("x",))),
        ):
            for function in (need_question, ways, answers, holds):
                with self.assertRaises(NoQuestion):
                    function(book, ((), atoms))
        with self.assertRaises(NoQuestion):
            answers(book, (("z",), (("a", ("x",)), ("b", ("y",)))))

    def test_tables_with_more_than_sixty_rows_are_read_all_the_same(self):
        book = {"a": (1, tuple((k,) for k in range(100)))}
        self.assertEqual(len(ways(book, ((), (("a", ("x",)),)))), 100)
        wide = {"a": (1, tuple((k,) for k in range(2001)))}
        for function in (ways, answers, holds):
            with self.assertRaises(TooMany):
                function(wide, (("x",), (("a", ("x",)),)))
        self.assertIs(holds(wide, ((), (("a", (2000,)),))), True)


if __name__ == "__main__":
    unittest.main()
