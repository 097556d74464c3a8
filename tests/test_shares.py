import copy
import itertools
import unittest
from fractions import Fraction
from math import comb, gcd

import references
from answercut import shares as module
from answercut.blame import blame
from answercut.errors import NotNested, TooMany
from answercut.lines import line_of
from answercut.nets import least_cut
from answercut.shares import chance, counts, crossing, loose_rows, shares
from helpers import keeps_arguments, raised

BOOK = {"a": (1, ((1,), (2,))), "b": (2, ((1, 5), (2, 5)))}
QUESTION = ((), (("a", ("x",)), ("b", ("x", "y"))))
CROSSED = ((), (("a", ("x",)), ("c", ("x", "y")), ("d", ("y",))))


def cases(first, many):
    """Small books, nested questions and some of their tables."""
    for number in range(first, first + many):
        source = references.source_of(number)
        question = references.some_question(source, source.choice((2, 3, 4)), ("x", "y", "z", "u"))
        book = references.some_book(source, question, 4, 2)
        loose = tuple(table for table, _ in question[1] if source.random() < 0.7)
        few = sum(len(book[table][1]) for table in loose) < 11
        if few and references.crossing(question) is None:
            yield source, book, question, loose


def some_chances(source, book, loose):
    unders = (1, 2, 3, 4, 6, 10 ** 9)
    return {table: {row: some_chance(source, source.choice(unders)) for row in book[table][1]} for table in loose}


def some_chance(source, under):
    return source.choice((0, under, source.randint(0, under))), under


class InterfaceTest(unittest.TestCase):
    def test_functions_are_defined_in_this_file(self):
        listed = (crossing, loose_rows, counts, shares, chance)
        self.assertEqual({each.__module__ for each in listed}, {module.__name__})

    def test_example(self):
        halves = {"a": {(1,): (1, 2), (2,): (1, 2)}}
        self.assertEqual(counts(BOOK, QUESTION, ("a", "b")), (0, 0, 2, 4, 1))
        self.assertEqual(shares(BOOK, QUESTION, ("a",)), (("a", (1,), (1, 2)), ("a", (2,), (1, 2))))
        self.assertEqual(chance(BOOK, QUESTION, halves), (3, 4))
        self.assertEqual(crossing(CROSSED), ("x", "y", ("c", "a", "d")))


class CrossingTest(unittest.TestCase):
    def test_nested_questions(self):
        for atoms in (
            (("a", (1,)),), (("a", ("x",)),), QUESTION[1], (("a", ("x",)), ("b", ("y",))),
            (("a", ("x", "y")), ("b", ("y", "x"))), (("a", ("x", "y")), ("b", ("x", "z")), ("c", ("x", "z", "z"))),
            (("a", ("x", "y", "z")), ("b", ("z", "u")), ("c", ("v", 5))),
        ):
            self.assertIsNone(crossing(((), atoms)))

    def test_the_first_pair(self):
        # y and z cross, and u and v.
        atoms = (("a", ("v",)), ("b", ("u", "v")), ("c", ("u",)), ("d", ("z",)), ("e", ("y", "z")), ("f", ("y",)))
        self.assertEqual(crossing(((), atoms)), ("u", "v", ("b", "c", "a")))
        # x crosses y and z.
        atoms = (("a", ("z", "x")), ("b", ("y", "x")), ("c", ("y",)), ("d", ("z",)))
        self.assertEqual(crossing(((), atoms)), ("x", "y", ("b", "a", "c")))

    def test_the_first_tables(self):
        atoms = (("f", ("y", "x")), ("e", ("x", "y")), ("d", ("y", "z")), ("c", ("y",)), ("b", ("x",)), ("a", ("x", 5)))
        self.assertEqual(crossing(((), atoms)), ("x", "y", ("f", "b", "d")))
        self.assertEqual(crossing(((), atoms[::-1])), ("x", "y", ("e", "a", "c")))

    def test_against_trial(self):
        source = references.source_of(1)
        told = set()
        for _ in range(2000):
            question = references.some_question(source, 5)
            expected = references.crossing(question)
            self.assertEqual(crossing(question), expected)
            told.add(expected is None)
        self.assertEqual(told, {True, False})


class LooseRowsTest(unittest.TestCase):
    def test_all_rows_of_loose_tables(self):
        book = {"c": (1, ((9,),)), **BOOK, "d": (2, ((1, 1),))}
        question = ((), (("b", ("x", "y")), ("a", ("x",)), ("d", (2, 1))))
        rows = (("a", (1,)), ("a", (2,)), ("b", (1, 5)), ("b", (2, 5)), ("d", (1, 1)))
        self.assertEqual(loose_rows(book, question, ("b", "a", "d")), rows)
        self.assertEqual(loose_rows(book, question, ("d", "a")), rows[:2] + rows[4:])
        self.assertEqual(loose_rows(book, question, ()), ())

    def test_it_asks_for_nothing(self):
        book = {"a": (1, tuple((k,) for k in range(60))), "c": (2, ((1, 1),)), "d": (1, ())}
        self.assertEqual(len(loose_rows(book, CROSSED, ("a", "c", "d"))), 61)


class CountsTest(unittest.TestCase):
    def test_no_loose_rows(self):
        self.assertEqual(counts(BOOK, QUESTION, ()), (1,))
        self.assertEqual(counts({**BOOK, "b": (2, ())}, QUESTION, ()), (0,))
        self.assertEqual(counts({**BOOK, "b": (2, ())}, QUESTION, ("b",)), (0,))

    def test_rows_of_no_way_are_counted(self):
        book = {"a": (1, ((1,), (3,))), "b": (2, ((1, 5), (2, 5)))}
        self.assertEqual(counts(book, QUESTION, ("a", "b")), (0, 0, 1, 2, 1))
        self.assertEqual(counts(book, QUESTION, ("a",)), (0, 1, 1))
        self.assertEqual(counts({"a": (2, ((1, 2), (1, 1), (5, 5)))}, ((), (("a", ("x", "x")),)), ("a",)), (0, 2, 3, 1))

    def test_several_pieces_and_atoms_without_names(self):
        book = {**BOOK, "c": (1, ((1,), (7,))), "d": (1, ((4,),))}
        question = ((), QUESTION[1] + (("c", (7,)), ("d", ("z",))))
        for loose in itertools.chain.from_iterable(itertools.combinations("abcd", many) for many in range(5)):
            self.assertEqual(counts(book, question, loose), references.counts(book, question, loose))

    def test_forty_loose_rows_of_a_question_with_many_ways(self):
        book = {"a": (1, tuple((k,) for k in range(40))), "b": (1, tuple((k,) for k in range(60)))}
        question = ((), (("a", ("x",)), ("b", ("y",))))
        self.assertEqual(counts(book, question, ("a",)), (0,) + tuple(comb(40, k) for k in range(1, 41)))
        self.assertEqual({share for _, _, share in shares(book, question, ("a",))}, {(1, 40)})
        ones = {"a": {(k,): (1, 10 ** 9) for k in range(40)}}
        self.assertEqual(chance(book, question, ones), (10 ** 360 - (10 ** 9 - 1) ** 40, 10 ** 360))

    def test_a_table_with_six_names(self):
        rows = tuple(sorted({(k % 2, k % 3, k % 5, k % 7, k % 2, k) for k in range(20)}))
        book = {"a": (6, rows), "b": (5, tuple(sorted({row[:5] for row in rows}))), "c": (1, ((0,), (1,)))}
        question = ((), (("c", ("x",)), ("a", tuple("xyzuvw")), ("b", tuple("xyzuv"))))
        self.assertEqual(len(loose_rows(book, question, ("a", "b"))), 40)
        told = counts(book, question, ("a", "b"))
        self.assertEqual(told[2], 20)
        self.assertEqual(told[40], 1)
        self.assertEqual(told[1], 0)
        # Twenty pairs of rows, each of which is enough.
        self.assertEqual(told[20], comb(40, 20) - 2 ** 20)

    def test_against_all_sets(self):
        many = 0
        for _, book, question, loose in cases(0, 500):
            told = counts(book, question, loose)
            self.assertEqual(told, references.counts(book, question, loose))
            many += told[-1] > 0 and told[0] == 0
        self.assertGreater(many, 50)


class SharesTest(unittest.TestCase):
    def share(self, book, question, loose, pair):
        """Point 13, from the counts of all sets."""
        every = references.counts(book, question, loose)
        fewer = references.counts(references.lost(book, [pair]), question, loose) + (0,)
        many = len(every) - 1
        parts = [Fraction(every[k + 1] - fewer[k + 1] - fewer[k], many * comb(many - 1, k)) for k in range(many)]
        return sum(parts).numerator, sum(parts).denominator

    def test_in_all_orders(self):
        book, question = {"a": (1, ((1,), (2,))), "b": (2, ((1, 5), (1, 6)))}, QUESTION
        pairs = loose_rows(book, question, ("a", "b"))
        first = dict.fromkeys(pairs, 0)
        for order in itertools.permutations(pairs):
            for many in range(1, 5):
                gone = [pair for pair in pairs if pair not in order[:many]]
                if references.ways(references.lost(book, gone), question):
                    first[order[many - 1]] += 1
                    break
        told = [(table, row, Fraction(first[(table, row)], 24)) for table, row in pairs]
        self.assertEqual(shares(book, question, ("a", "b")),
                         tuple((table, row, (part.numerator, part.denominator)) for table, row, part in told))

    def test_rows_of_no_way_and_firm_rows(self):
        book = {"a": (1, ((1,), (3,))), "b": (2, ((1, 5), (2, 5)))}
        self.assertEqual(shares(book, QUESTION, ("a",)), (("a", (1,), (1, 1)), ("a", (3,), (0, 1))))
        self.assertEqual(shares(book, QUESTION, ()), ())
        # b's rows of c let the question hold at once.
        question = ((), (("a", ("x",)), ("b", ("y", "z"))))
        self.assertEqual(shares({**book, "a": (1, ())}, question, ("b",)), (("b", (1, 5), (0, 1)), ("b", (2, 5), (0, 1))))

    def test_against_all_sets(self):
        for _, book, question, loose in cases(1000, 400):
            told = shares(book, question, loose)
            pairs = loose_rows(book, question, loose)
            self.assertEqual([(table, row) for table, row, _ in told], list(pairs))
            for table, row, share in told:
                self.assertEqual(share, self.share(book, question, loose, (table, row)))
            full = counts(book, question, loose)
            whole = sum((Fraction(*share) for _, _, share in told), Fraction(0))
            self.assertEqual(whole, 0 if full[0] or not full[-1] else 1)


class ChanceTest(unittest.TestCase):
    def test_chances_zero_and_one(self):
        for _, book, question, loose in cases(2000, 150):
            for chosen in references.subsets(loose_rows(book, question, loose)[:5]):
                chances = {
                    table: {row: (3, 3) if (table, row) in chosen else (0, 7) for row in book[table][1]} for table in loose
                }
                left = {**book, **{table: (book[table][0], tuple(
                    row for row in book[table][1] if (table, row) in chosen)) for table in loose}}
                holds = bool(references.ways(left, question))
                self.assertEqual(chance(book, question, chances), (1, 1) if holds else (0, 1))

    def test_a_common_divisor(self):
        chances = {"a": {(1,): (2, 4), (2,): (5, 10)}}
        self.assertEqual(chance(BOOK, QUESTION, chances), (3, 4))
        chances = {"a": {(1,): (0, 10 ** 9), (2,): (10 ** 9, 10 ** 9)}}
        self.assertEqual(chance(BOOK, QUESTION, chances), (1, 1))

    def test_no_loose_tables(self):
        self.assertEqual(chance(BOOK, QUESTION, {}), (1, 1))
        self.assertEqual(chance({**BOOK, "a": (1, ())}, QUESTION, {}), (0, 1))
        self.assertEqual(chance({**BOOK, "a": (1, ())}, QUESTION, {"a": {}}), (0, 1))

    def test_against_all_sets(self):
        for source, book, question, loose in cases(3000, 400):
            chances = some_chances(source, book, loose)
            over, under = chance(book, question, chances)
            self.assertEqual((over, under), references.chance(book, question, chances))
            self.assertTrue(0 <= over <= under and gcd(over, under) == 1)

    def test_one_row_s_chance(self):
        """Point 14: the chance is p times that with the row there and 1 - p times that without it."""
        for source, book, question, loose in cases(4000, 200):
            chances = some_chances(source, book, loose)
            told = Fraction(*chance(book, question, chances))
            for table, row in loose_rows(book, question, loose):
                parts = [Fraction(*chance(book, question, {**chances, table: {**chances[table], row: (over, 1)}}))
                         for over in (0, 1)]
                there = Fraction(*chances[table][row])
                self.assertEqual(told, (1 - there) * parts[0] + there * parts[1])


class BothHalvesTest(unittest.TestCase):
    """Point 15: where counts and least prices, shares and blames meet."""

    def test_lines(self):
        for _, _, question, loose in cases(5000, 300):
            for piece in references.pieces(question):
                self.assertIsNotNone(line_of(question, tuple(table for table in piece if table in loose)))

    def test_least_prices_and_blames(self):
        seen = set()
        for _, book, question, loose in cases(6000, 400):
            prices = {table: 1 if table in loose else None for table, _ in question[1]}
            full = counts(book, question, loose)
            many = len(full) - 1
            gone = [k for k, count in enumerate(full) if count < comb(many, k)]
            told = least_cut(book, question, prices, None)
            self.assertEqual(told[1] if told[0] == "cut" else None, many - max(gone) if gone else None)
            for table, row, share in shares(book, question, loose):
                fewer = counts(references.lost(book, [(table, row)]), question, loose) + (0,)
                decisive = [k for k in range(many) if full[k + 1] - fewer[k + 1] - fewer[k] > 0]
                found = blame(book, question, prices, (table, row))
                self.assertEqual(found[1] if found[0] == "blame" else None, many - 1 - max(decisive) if decisive else None)
                self.assertEqual(found[0] == "none", share == (0, 1))
                seen.add(found[0])
        self.assertEqual(seen, {"blame", "none"})


class ErrorTest(unittest.TestCase):
    def test_too_many_loose_rows(self):
        book = {"a": (1, tuple((k,) for k in range(41))), "b": (2, ((1, 5),))}
        chances = {"a": {(k,): (1, 2) for k in range(41)}}
        much = (TooMany, {"limit": 40})
        self.assertEqual(raised(counts, book, QUESTION, ("a",)), much)
        self.assertEqual(raised(shares, book, QUESTION, ("a",)), much)
        self.assertEqual(raised(chance, book, QUESTION, chances), much)
        self.assertIsNone(raised(counts, book, QUESTION, ("b",)))
        book["a"] = (1, book["a"][1][:39])
        self.assertIsNone(raised(counts, book, QUESTION, ("a", "b")))
        book["b"] = (2, ((1, 5), (1, 6)))
        self.assertEqual(raised(counts, book, QUESTION, ("a", "b")), much)
        self.assertIsNone(raised(shares, book, QUESTION, ("a",)))

    def test_not_nested_goes_first(self):
        rows = tuple((k,) for k in range(60))
        book = {"a": (1, rows), "c": (2, ((1, 1),)), "d": (1, rows)}
        refused = (NotNested, {"paper": ("x", "y", ("c", "a", "d"))})
        for loose in ((), ("a",), ("a", "c", "d")):
            self.assertEqual(raised(counts, book, CROSSED, loose), refused)
            self.assertEqual(raised(shares, book, CROSSED, loose), refused)
            chances = {table: {row: (1, 2) for row in book[table][1]} for table in loose}
            self.assertEqual(raised(chance, book, CROSSED, chances), refused)


class ArgumentsTest(unittest.TestCase):
    def test_no_argument_is_modified(self):
        for source, book, question, loose in cases(7000, 60):
            chances = some_chances(source, book, loose)
            told = [
                keeps_arguments(self, loose_rows, book, question, loose), keeps_arguments(self, counts, book, question, loose),
                keeps_arguments(self, shares, book, question, loose), keeps_arguments(self, chance, book, question, chances),
                keeps_arguments(self, crossing, question),
            ]
            kept = copy.deepcopy(told)
            book.clear()
            chances.clear()
            self.assertEqual(told, kept)


if __name__ == "__main__":
    unittest.main()
