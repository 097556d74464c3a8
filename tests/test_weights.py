import copy
import unittest
from fractions import Fraction

import references
from answercut import weights
from answercut.errors import NoQuestion, NoRow, NotNested, TooMany
from answercut.shares import crossing
from answercut.weights import answer_chances, chance_given, growth, growths, seen, swing
from helpers import keeps_arguments, raised
from oddities import ANY_OBJECTS, NEVER_RIGHT, shown

BOOK = {"a": (1, ((1,), (2,))), "b": (2, ((1, 5), (2, 5)))}
QUESTION = ((), (("a", ("x",)), ("b", ("x", "y"))))
CHANCES = {"a": {(1,): (1, 2), (2,): (1, 3)}}
CROSSING = ((), (("a", ("x",)), ("b", ("x", "y")), ("c", ("y",))))
SIXTY = tuple((k,) for k in range(60))


def pairs_of(chances):
    return sorted((table, row) for table in chances for row in chances[table])


def all_worlds(book, question, chances):
    """For all sets of loose rows that may be there: the set, its chance, and whether the question holds with it."""
    made = [{pair for pair in references.rows_of(question, way) if pair[0] in chances}
            for way in references.ways(book, question)]
    pairs = pairs_of(chances)
    for chosen in references.subsets(pairs):
        weight = Fraction(1)
        for table, row in pairs:
            there = Fraction(*chances[table][row])
            weight *= there if (table, row) in chosen else 1 - there
        yield chosen, weight, any(rows <= set(chosen) for rows in made)


def with_chance(chances, pair, fraction):
    changed = copy.deepcopy(chances)
    changed[pair[0]][pair[1]] = fraction
    return changed


def held(book, question, chances):
    return sum((weight for _, weight, holds in all_worlds(book, question, chances) if holds), Fraction(0))


def plain(number):
    return number.numerator, number.denominator


def cases(first, many):
    """Small books, nested questions, perhaps of several pieces, and chances, some 0 or 1, some not in lowest terms."""
    for number in range(first, first + many):
        source = references.source_of(number)
        question = references.some_question(source, 3, ("x", "y", "z"), 2)
        book = references.some_book(source, question, 3, 2)
        if references.crossing(question) is not None:
            continue
        chances = {}
        for table, _ in question[1]:
            if source.random() < 0.7:
                chances[table] = {}
                for row in book[table][1]:
                    under = source.choice((1, 2, 3, 4, 6))
                    chances[table][row] = source.randint(0, under), under
        if len(pairs_of(chances)) < 8:
            yield source, book, question, chances


class InterfaceTest(unittest.TestCase):
    def test_functions_are_defined_in_this_file(self):
        told = (answer_chances, chance_given, growth, growths, seen, swing)
        self.assertEqual({each.__module__ for each in told}, {weights.__name__})

    def test_example(self):
        self.assertEqual(growths(BOOK, QUESTION, CHANCES), (("a", (1,), (2, 3)), ("a", (2,), (1, 2))))
        self.assertEqual(swing(BOOK, QUESTION, ("a",), ("a", (2,))), (1, 2))
        self.assertEqual(seen(BOOK, QUESTION, CHANCES, (), (("a", (1,)),)), (1, 3))
        self.assertEqual(chance_given(BOOK, QUESTION, CHANCES, ("a", (1,)), True), (3, 4))
        self.assertEqual(chance_given(BOOK, QUESTION, CHANCES, ("a", (1,)), False), (0, 1))
        self.assertEqual(answer_chances(BOOK, (("x",), QUESTION[1]), CHANCES), [((1,), (1, 2)), ((2,), (1, 3))])


class AllWorldsTest(unittest.TestCase):
    """Against all sets of loose rows, looked at one by one."""

    def test_growth_and_growths(self):
        zero = part = 0
        for _, book, question, chances in cases(81000, 500):
            told = growths(book, question, chances)
            self.assertEqual([each[:2] for each in told], pairs_of(chances))
            for table, row, fraction in told:
                pair = table, row
                there = held(book, question, with_chance(chances, pair, (1, 1)))
                lost = held(book, question, with_chance(chances, pair, (0, 1)))
                self.assertEqual(fraction, plain(there - lost))
                self.assertEqual(growth(book, question, chances, pair), fraction)
                zero += fraction == (0, 1)
                part += fraction[1] > 1
        self.assertGreater(min(zero, part), 50)

    def test_swing(self):
        found = set()
        for _, book, question, chances in cases(82000, 400):
            halves = {table: {row: (1, 2) for row in rows} for table, rows in chances.items()}
            for pair in pairs_of(chances):
                others = [other for other in pairs_of(chances) if other != pair]
                made = [{one for one in references.rows_of(question, way) if one[0] in chances}
                        for way in references.ways(book, question)]
                many = 0
                for chosen in references.subsets(others):
                    behind = any(rows <= set(chosen) for rows in made)
                    many += any(rows <= {*chosen, pair} for rows in made) and not behind
                told = swing(book, question, tuple(chances), pair)
                self.assertEqual(told, plain(Fraction(many, 2 ** len(others))))
                self.assertEqual(told, growth(book, question, halves, pair))
                found.add(told)
        self.assertGreater(len(found), 6)

    def test_seen(self):
        many = 0
        for source, book, question, chances in cases(83000, 300):
            pairs = pairs_of(chances)
            for _ in range(5):
                kinds = [source.choice("tl...") for _ in pairs]
                there = tuple(pair for pair, kind in zip(pairs, kinds) if kind == "t")
                lost = tuple(pair for pair, kind in zip(pairs, kinds) if kind == "l")
                changed = copy.deepcopy(chances)
                for pair in there + lost:
                    changed[pair[0]][pair[1]] = (int(pair in there), 1)
                self.assertEqual(seen(book, question, chances, there, lost), plain(held(book, question, changed)))
                many += bool(there and lost)
        self.assertGreater(many, 100)

    def test_what_is_seen_adds_up(self):
        for _, book, question, chances in cases(84000, 150):
            whole = held(book, question, chances)
            for pair in pairs_of(chances):
                p = Fraction(*chances[pair[0]][pair[1]])
                there = Fraction(*seen(book, question, chances, (pair,), ()))
                lost = Fraction(*seen(book, question, chances, (), (pair,)))
                self.assertEqual(p * there + (1 - p) * lost, whole)

    def test_chance_given(self):
        kinds = set()
        for _, book, question, chances in cases(85000, 400):
            worlds = list(all_worlds(book, question, chances))
            for pair in pairs_of(chances):
                for holding in (True, False):
                    given = sum((weight for _, weight, holds in worlds if holds is holding), Fraction(0))
                    both = sum((weight for rows, weight, holds in worlds if holds is holding and pair in rows),
                        Fraction(0))
                    told = chance_given(book, question, chances, pair, holding)
                    self.assertEqual(told, plain(both / given) if given else None)
                    kinds.add((told if told in (None, (0, 1), (1, 1)) else "part", holding))
        self.assertEqual(len(kinds), 8)

    def test_answer_chances(self):
        several = 0
        for source, book, question, chances in cases(86000, 400):
            names = references.names_of(question)
            head = tuple(source.sample(names, source.randint(0, min(2, len(names)))))
            asked = head, question[1]
            found = references.answers(book, asked)
            expected = []
            for answer in found:
                closed = references.put_answer(asked, answer)
                expected.append((answer, plain(held(book, closed, chances))))
            self.assertEqual(answer_chances(book, asked, chances), expected)
            several += len(found) > 1
        self.assertGreater(several, 20)

    def test_rows_of_no_way_and_no_way_at_all(self):
        book = {"a": (1, ((1,), (2,))), "b": (2, ((1, 5), (3, 5)))}
        chances = {"a": {(1,): (2, 4), (2,): (1, 3)}, "b": {(1, 5): (1, 1), (3, 5): (0, 7)}}
        self.assertEqual(growths(book, QUESTION, chances), (
            ("a", (1,), (1, 1)), ("a", (2,), (0, 1)), ("b", (1, 5), (1, 2)), ("b", (3, 5), (0, 1))
        ))
        self.assertEqual(swing(book, QUESTION, ("a", "b"), ("a", (2,))), (0, 1))
        self.assertEqual(swing(book, QUESTION, ("a", "b"), ("a", (1,))), (1, 2))
        none = {"a": (1, ((1,),)), "b": (2, ((3, 5),))}
        chances = {"a": {(1,): (2, 4)}}
        self.assertEqual(growths(none, QUESTION, chances), (("a", (1,), (0, 1)),))
        self.assertIsNone(chance_given(none, QUESTION, chances, ("a", (1,)), True))
        self.assertEqual(chance_given(none, QUESTION, chances, ("a", (1,)), False), (1, 2))
        self.assertEqual(answer_chances(none, QUESTION, chances), [])
        self.assertEqual(answer_chances(none, (("x",), QUESTION[1]), chances), [])
        self.assertEqual(growths(book, QUESTION, {}), ())

    def test_forty_rows(self):
        book = {"a": (1, SIXTY[:40]), "b": (2, ((1, 5),))}
        chances = {"a": {row: (1, 10 ** 9) for row in SIXTY[:40]}}
        self.assertEqual(growth(book, QUESTION, chances, ("a", (1,))), (1, 1))
        self.assertEqual(swing(book, QUESTION, ("a",), ("a", (0,))), (0, 1))
        self.assertEqual(len(growths(book, QUESTION, chances)), 40)

    def test_arguments_are_kept(self):
        pair = ("a", (1,))
        keeps_arguments(self, growth, BOOK, QUESTION, CHANCES, pair)
        keeps_arguments(self, growths, BOOK, QUESTION, CHANCES)
        keeps_arguments(self, swing, BOOK, QUESTION, ("a",), pair)
        keeps_arguments(self, seen, BOOK, QUESTION, CHANCES, (pair,), (("a", (2,)),))
        keeps_arguments(self, chance_given, BOOK, QUESTION, CHANCES, pair, True)
        keeps_arguments(self, answer_chances, BOOK, (("x",), QUESTION[1]), CHANCES)


class ErrorsTest(unittest.TestCase):
    def all_of(self, book, question, chances, pair):
        """All that raise NotNested and TooMany(40), those with a row with one that is wrong."""
        yield growth, (book, question, chances, pair)
        yield growths, (book, question, chances)
        yield swing, (book, question, tuple(chances), pair)
        yield seen, (book, question, chances, pair, pair)
        yield chance_given, (book, question, chances, pair, True)
        yield chance_given, (book, question, chances, pair, False)

    def test_not_nested(self):
        book = {"a": (1, SIXTY), "b": (2, ((1, 1),)), "c": (1, ((1,),))}
        chances = {"a": {row: (1, 2) for row in SIXTY}}
        paper = {"paper": ("x", "y", ("b", "a", "c"))}
        self.assertEqual(crossing(CROSSING), paper["paper"])
        for pair in (None, ("a", (1,)), ("z", 1)):
            for function, arguments in self.all_of(book, CROSSING, chances, pair):
                self.assertEqual(raised(function, *arguments), (NotNested, paper))
        self.assertEqual(raised(answer_chances, book, CROSSING, chances), (NotNested, paper))
        # Put for x, the rest is nested.
        self.assertIsNone(raised(answer_chances, {**book, "a": (1, ((1,),))}, (("x",), CROSSING[1]), {}))
        self.assertEqual(answer_chances({**book, "c": (1, ())}, CROSSING, chances), [])

    def test_too_many(self):
        book = {"a": (1, SIXTY[:41]), "b": (2, ((1, 5),))}
        chances = {"a": {row: (1, 2) for row in SIXTY[:41]}}
        for pair in (None, ("a", (1,))):
            for function, arguments in self.all_of(book, QUESTION, chances, pair):
                self.assertEqual(raised(function, *arguments), (TooMany, {"limit": 40}))
        self.assertEqual(raised(answer_chances, book, QUESTION, chances), (TooMany, {"limit": 40}))
        self.assertEqual(answer_chances({**book, "b": (2, ())}, QUESTION, chances), [])

    def test_answers_raise_first(self):
        book = {"a": (1, SIXTY), "b": (1, SIXTY), "c": (2, ((1, 1),))}
        question = ("x",), (("a", ("x",)), ("b", ("y",)), ("c", ("x", "y")))
        chances = {"a": {row: (1, 2) for row in SIXTY}}
        self.assertEqual(raised(answer_chances, book, question, chances), (TooMany, {"limit": 2000}))
        for thing in NEVER_RIGHT:
            self.assertEqual(raised(answer_chances, book, thing, chances), (NoQuestion, {}))

    def test_no_row(self):
        wrong = [("b", (1, 5)), ("a", (3,)), ("a", (True,)), ("a", 1), ["a", (1,)], ("a", [1]), ("a", (1,), 1), ("a",),
            ("z", (1,))]
        for thing in wrong + [thing for thing in ANY_OBJECTS if thing != ("a", (1,))]:
            for function in (growth, lambda *case: chance_given(*case, True), lambda *case: chance_given(*case, False)):
                self.assertEqual(raised(function, BOOK, QUESTION, CHANCES, thing), (NoRow, {}), shown(thing))
            self.assertEqual(raised(swing, BOOK, QUESTION, ("a",), thing), (NoRow, {}), shown(thing))
            for both in (((thing,), ()), ((), (thing,)), (thing, ()), ((), thing)):
                if both != ((), ()):
                    self.assertEqual(raised(seen, BOOK, QUESTION, CHANCES, *both), (NoRow, {}), shown(thing))
        self.assertEqual(raised(swing, BOOK, QUESTION, ("b",), ("a", (1,))), (NoRow, {}))
        self.assertEqual(raised(swing, BOOK, QUESTION, (), ("a", (1,))), (NoRow, {}))

    def test_what_is_seen(self):
        one, other = ("a", (1,)), ("a", (2,))
        for there, lost in (((other, one), ()), ((), (other, one)), ((one, one), ()), ((one,), (one,)),
                ((one, other), (other,)),
                            ([one], ()), ((), [one]), ({one: 1}, ())):
            self.assertEqual(raised(seen, BOOK, QUESTION, CHANCES, there, lost), (NoRow, {}))
        self.assertEqual(seen(BOOK, QUESTION, CHANCES, (one, other), ()), (1, 1))
        self.assertEqual(seen(BOOK, QUESTION, CHANCES, (), (one, other)), (0, 1))
        self.assertEqual(seen(BOOK, QUESTION, CHANCES, (), ()), (2, 3))


if __name__ == "__main__":
    unittest.main()
