import unittest

import references
import surveys
from answercut.openings import are_open_rows, has_way, is_open_row, open_prices
from oddities import ANY_OBJECTS, shown


class HasWayTest(unittest.TestCase):
    def test_against_all_ways(self):
        told = set()
        for number in range(1500):
            source = references.source_of(number)
            question = references.some_question(source, 6)
            book = references.some_book(source, question, 5, 3)
            expected = bool(references.ways(book, question))
            self.assertIs(has_way(book, question), expected, (book, question))
            told.add((expected, len(question[1])))
        self.assertEqual(len(told), 12)

    def test_very_many_ways(self):
        rows = tuple((0, k) for k in range(60))
        book = {table: (2, rows) for table in "abcdef"}
        atoms = tuple((table, ("x", name)) for table, name in zip("abcdef", "pqrstu"))
        self.assertIs(has_way(book, ((), atoms)), True)
        self.assertIs(has_way({**book, "f": (2, ((1, 1),))}, ((), atoms)), False)
        apart = tuple((table, (f"x{table}", f"y{table}")) for table in "abcd")
        self.assertIs(has_way(book, ((), apart)), True)
        self.assertIs(has_way({**book, "d": (2, ())}, ((), apart)), False)


class OpenTest(unittest.TestCase):
    def test_against_all_rows(self):
        for source, book, question, prices, pinned in surveys.cases(3000, 200):
            opened = open_prices(question, prices, pinned)
            known = surveys.open_pairs(book, question, prices, pinned)
            pairs = [(table, row) for table in book for row in book[table][1]]
            self.assertEqual(sorted(pair for pair in pairs if is_open_row(book, opened, pinned, pair)), known)
            self.assertIs(are_open_rows(book, opened, pinned, tuple(known)), True)
            for pair in pairs:
                self.assertIs(are_open_rows(book, opened, pinned, (pair,)), pair in known)

    def test_any_objects(self):
        book, prices = {"a": (1, ((1,),))}, {"a": 1}
        for thing in ANY_OBJECTS:
            self.assertIs(is_open_row(book, prices, None, thing), thing == ("a", (1,)), shown(thing))
            self.assertIs(are_open_rows(book, prices, None, thing), thing == (), shown(thing))


if __name__ == "__main__":
    unittest.main()
