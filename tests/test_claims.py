import copy
import unittest

import references
import surveys
from answercut import claims
from answercut.claims import about_row, about_rows, shows_claim
from answercut.errors import NoLine, NoPrice, NoQuestion, NoRow, TooMany
from answercut.lines import shows_triad
from changes import some_changes
from helpers import keeps_arguments, raised
from oddities import ANY_OBJECTS, NEVER_RIGHT, shown

BOOK = {"a": (1, ((1,),)), "b": (1, ((1,),))}
QUESTION = ((), (("a", ("x",)), ("b", ("x",))))
PRICES = {"a": 1, "b": 1}
ROW, OTHER = ("a", (1,)), ("b", (1,))
SIXTY = tuple((k,) for k in range(60))
LARGE = {"a": (1, SIXTY), "b": (1, SIXTY), "c": (2, ((0, 0),)), "d": (1, ((1,),))}
LARGE_ATOMS = (("a", ("x",)), ("b", ("y",)), ("c", ("x", "y")))
TRIANGLE = ((), (("r", ("p", "q")), ("s", ("q", "w")), ("t", ("w", "p"))))
TRIANGLE_BOOK = {table: (2, ((1, 1),)) for table in "rst"}
ONES = {"r": 1, "s": 1, "t": 1}


def two_rows(pairs):
    return [(one, other) for one in pairs for other in pairs if one != other]


class InterfaceTest(unittest.TestCase):
    def test_functions_are_defined_in_this_file(self):
        self.assertEqual({each.__module__ for each in (about_row, about_rows, shows_claim)}, {claims.__name__})

    def test_example(self):
        told = about_row(BOOK, QUESTION, PRICES, None, ROW)
        self.assertEqual(told[0], (("each", ROW), (1, (ROW,), (((1,), 2),))))
        self.assertEqual([claim[0] for claim, _ in about_row(BOOK, QUESTION, PRICES, (), ROW)], ["not each", "some"])
        other = [claim[0] for claim, _ in about_rows(BOOK, QUESTION, PRICES, (), ROW, OTHER)]
        self.assertEqual(other, ["never both", "not with"])
        self.assertIs(shows_claim(BOOK, QUESTION, PRICES, None, *told[0]), True)


class AboutTest(unittest.TestCase):
    """Against all least cuts, found by trying all sets of open rows."""

    def told(self, case, claim, told, cuts):
        book, question, prices, pinned = case
        self.assertIn((type(told), len(told)), [(tuple, 2)])
        self.assertTrue(surveys.is_true(claim, cuts), (case, claim))
        self.assertTrue(surveys.judge_claim(book, question, prices, pinned, claim, told[1]), (case, told))
        self.assertIs(shows_claim(book, question, prices, pinned, claim, told[1]), True)

    def check(self, book, question, prices, pinned):
        """The kinds of claims that were told."""
        case = book, question, prices, pinned
        price, cuts = surveys.all_least(*case)
        pairs = surveys.open_pairs(*case)
        kinds = set()
        for rows in [(pair,) for pair in pairs] + two_rows(pairs)[:40]:
            told = about_row(*case, *rows) if len(rows) == 1 else about_rows(*case, *rows)
            if price is None:
                self.assertEqual(told[0], "stands")
                self.assertIn(told[1], references.ways(book, question))
                self.assertFalse(set(references.rows_of(question, told[1])) & set(pairs))
                kinds.add("stands")
                continue
            self.assertIs(type(told), tuple)
            due = surveys.OPPOSITES[:2] if len(rows) == 1 else surveys.OPPOSITES[2:]
            self.assertEqual(len(told), 2)
            for each, opposites in zip(told, due):
                self.assertIn(each[0][0], opposites)
                self.assertEqual(each[0][1:], rows)
                self.told(case, each[0], each, cuts)
                self.assertEqual(each[1][0], price)
                kinds.add(each[0][0])
        return kinds

    def test_small_books(self):
        kinds, some_pins = set(), set()
        for _, book, question, prices, pinned in surveys.cases(31000, 500):
            kinds |= self.check(book, question, prices, pinned)
            some_pins.add(pinned if not pinned else 1)
        self.assertEqual(kinds, {*surveys.KINDS, "stands"})
        self.assertEqual(some_pins, {None, (), 1})

    def test_several_pieces(self):
        question = ((), (("a", ("x",)), ("b", ("y",)), ("c", ("z", "w")), ("d", ("w",))))
        book = {"a": (1, ((1,),)), "b": (1, ((5,), (6,))), "c": (2, ((1, 1), (1, 2))), "d": (1, ((1,), (2,)))}
        for prices in ({"a": 2, "b": 1, "c": 1, "d": 1}, {"a": 1, "b": 1, "c": None, "d": 3}, dict.fromkeys("abcd", 7)):
            for pinned in (None, (), (("a", (1,)),) if prices["a"] else ()):
                self.check(book, question, prices, pinned)

    def test_no_way(self):
        book = {"a": (1, ((1,), (3,))), "b": (1, ((2,),))}
        for pinned in (None, ()):
            told = about_row(book, QUESTION, PRICES, pinned, ROW)
            self.assertEqual(told, ((("not each", ROW), (0, (), ())), (("none", ROW), (0, (), ()))))
        one, other = ("a", (1,)), ("a", (3,))
        told = about_rows(book, QUESTION, PRICES, None, one, other)
        self.assertEqual(told, ((("never both", one, other), (0, (), ())), (("with", one, other), (0, (), ()))))
        self.check(book, QUESTION, PRICES, ())

    def test_large_prices(self):
        book = {"a": (1, ((1,), (2,))), "b": (1, ((1,), (2,)))}
        self.check(book, QUESTION, {"a": 10 ** 30, "b": 10 ** 30}, ())

    def test_many_ways_only_together(self):
        book = {table: (1, SIXTY[:50]) for table in "abc"}
        question = ((), (("a", ("x",)), ("b", ("y",)), ("c", ("z",))))
        prices = {"a": 1, "b": 2, "c": None}
        told = about_row(book, question, prices, None, ("a", (0,)))
        self.assertEqual([claim[0] for claim, _ in told], ["each", "some"])
        for claim, paper in told + about_rows(book, question, prices, None, ("a", (0,)), ("b", (0,))):
            self.assertIs(shows_claim(book, question, prices, None, claim, paper), True)

    def test_arguments_are_kept(self):
        for pinned in (None, ()):
            keeps_arguments(self, about_row, BOOK, QUESTION, PRICES, pinned, ROW)
            keeps_arguments(self, about_rows, BOOK, QUESTION, PRICES, (), ROW, OTHER)
        told = about_row(BOOK, QUESTION, PRICES, None, ROW)
        keeps_arguments(self, shows_claim, BOOK, QUESTION, PRICES, None, *told[0])

    def test_what_is_passed_may_be_changed_afterwards(self):
        book, prices = copy.deepcopy(BOOK), dict(PRICES)
        told = about_row(book, QUESTION, prices, None, ROW)
        book["a"], prices["a"] = (1, ()), 9
        self.assertEqual(told, about_row(BOOK, QUESTION, PRICES, None, ROW))


class ErrorsTest(unittest.TestCase):
    def both(self, error, book, question, prices, pinned, one, other):
        self.assertEqual(raised(about_row, book, question, prices, pinned, one), error, shown(one))
        self.assertEqual(raised(about_rows, book, question, prices, pinned, one, other), error, shown(one))
        self.assertEqual(raised(about_rows, book, question, prices, pinned, other, one), error, shown(one))

    def test_no_question_no_price_no_row(self):
        for thing in NEVER_RIGHT:
            self.both((NoQuestion, {}), LARGE, thing, None, "?", None, None)
            self.both((NoPrice, {}), LARGE, ((), LARGE_ATOMS), thing, "?", None, None)
            if thing is not None:
                self.both((NoRow, {}), TRIANGLE_BOOK, TRIANGLE, ONES, thing, ("r", (1, 1)), ("s", (1, 1)))
        self.both((NoQuestion, {}), BOOK, (("x",), QUESTION[1]), PRICES, None, ROW, OTHER)

    def test_rows_that_are_not_open(self):
        book = {**BOOK, "c": (1, ((1,), (2,)))}
        question = ((), (("a", ("x",)), ("b", ("x",)), ("c", ("x",))))
        # With nothing pinned a rules b; c is firm.
        prices = {"a": 1, "b": 1, "c": None}
        wrong = [("b", (1,)), ("c", (1,)), ("a", (2,)), ("a", (True,)), ["a", (1,)], ("z", (1,)), ("a", 1),
            ("a", (1, 1))]
        for thing in wrong + ANY_OBJECTS:
            if thing != ROW or type(thing[1][0]) is bool:
                self.both((NoRow, {}), book, question, prices, None, thing, ROW)
        self.assertEqual(raised(about_rows, book, question, prices, None, ROW, ROW), (NoRow, {}))
        self.assertEqual(raised(about_rows, book, question, prices, (), ROW, ROW), (NoRow, {}))
        self.both((NoRow, {}), book, question, prices, (ROW,), ROW, OTHER)
        self.assertIsNone(raised(about_row, book, question, prices, (ROW,), OTHER))

    def test_no_line(self):
        for pinned in (None, ()):
            self.both((NoRow, {}), TRIANGLE_BOOK, TRIANGLE, ONES, pinned, ("r", (2, 2)), ("s", (1, 1)))
            kind, fields = raised(about_row, TRIANGLE_BOOK, TRIANGLE, ONES, pinned, ("r", (1, 1)))
            self.assertEqual((kind, fields["paper"][0]), (NoLine, ("r", "s", "t")))
            self.assertTrue(shows_triad(TRIANGLE, ("r", "s", "t"), fields["paper"]))
            kind, fields = raised(about_rows, TRIANGLE_BOOK, TRIANGLE, ONES, pinned, ("r", (1, 1)), ("s", (1, 1)))
            self.assertEqual((kind, fields["paper"][0]), (NoLine, ("r", "s", "t")))

    def test_the_line_is_one_of_ruling_tables_if_nothing_is_pinned(self):
        question = ((), TRIANGLE[1] + (("u", ("p",)),))
        book = {**TRIANGLE_BOOK, "u": (1, ((1,),))}
        prices = {**ONES, "u": 1}
        self.assertIsNone(raised(about_row, book, question, prices, None, ("u", (1,))))
        self.assertEqual(raised(about_row, book, question, prices, (), ("u", (1,)))[0], NoLine)
        self.assertEqual(raised(about_row, book, question, prices, None, ("r", (1, 1)))[0], NoRow)

    def test_too_many(self):
        question, prices = ((), LARGE_ATOMS), {"a": 1, "b": 1, "c": None}
        self.both((TooMany, {"limit": 2000}), LARGE, question, prices, None, ("a", (0,)), ("b", (0,)))
        self.both((NoRow, {}), LARGE, question, prices, None, ("a", (60,)), ("b", (0,)))
        # No line comes ahead of too many ways.
        book = {**LARGE, **TRIANGLE_BOOK}
        both = ((), LARGE_ATOMS + TRIANGLE[1])
        self.assertEqual(raised(about_row, book, both, {**prices, **ONES}, None, ("a", (0,)))[0], NoLine)


class JudgeTest(unittest.TestCase):
    def agree(self, case, claim, thing):
        expected = surveys.judge_claim(*case, claim, thing)
        self.assertIs(shows_claim(*case, claim, thing), expected, (case, claim, shown(thing)))
        return expected

    def test_changed_certificates_and_claims(self):
        taken = 0
        for source, *case in surveys.cases(34000, 90):
            pairs = surveys.open_pairs(*case)
            price, cuts = surveys.all_least(*case)
            if price is None or not pairs:
                continue
            rows = source.choice([(pair,) for pair in pairs] + two_rows(pairs))
            told = about_row(*case, *rows) if len(rows) == 1 else about_rows(*case, *rows)
            for claim, paper in told:
                for thing in some_changes(source, paper, 40):
                    taken += self.agree(case, claim, thing)
                for other in some_changes(source, claim, 20):
                    taken += self.agree(case, other, paper)
                for kind in surveys.KINDS:
                    taken += self.agree(case, (kind, *claim[1:]), paper)
                    taken += self.agree(case, (kind, *claim[:0:-1]), paper)
        self.assertGreater(taken, 40)

    def test_amounts_moved_from_way_to_way(self):
        """Amounts of the due sum at the bounds and beyond them, for each kind of claims and each cut."""
        taken = dict.fromkeys(surveys.KINDS, 0)
        left = dict.fromkeys(surveys.KINDS, 0)
        for source, *case in surveys.cases(36000, 120, 3, 5):
            pairs = surveys.open_pairs(*case)
            price, cuts = surveys.all_least(*case)
            if not price or len(pairs) < 2:
                continue
            amounts = dict(about_row(*case, pairs[0])[1][1][2])
            ways = references.ways(case[0], case[1])
            for kind in surveys.KINDS:
                one, other = source.sample(pairs, 2)
                claim = (kind, one) if kind in surveys.KINDS[:4] else (kind, one, other)
                due = price + {"each": 1, "never both": -1}.get(kind, 0)
                for _ in range(12):
                    changed = dict(amounts)
                    for _ in range(source.randint(0, 2)):
                        way = source.choice(list(changed))
                        changed[way] -= 1
                        more = source.choice(ways)
                        changed[more] = changed.get(more, 0) + 1
                        changed = {way: amount for way, amount in changed.items() if amount}
                    while changed and sum(changed.values()) != due:
                        way = source.choice(ways)
                        changed[way] = changed.get(way, 0) + (1 if sum(changed.values()) < due else -1)
                        changed = {way: amount for way, amount in changed.items() if amount > 0}
                    told = self.agree(case, claim, (price, source.choice(cuts), tuple(sorted(changed.items()))))
                    taken[kind] += told
                    left[kind] += not told
        self.assertGreater(min(taken.values()), 10)
        self.assertGreater(min(left.values()), 10)

    def test_no_false_claim_is_shown(self):
        """All small certificates for all claims, in questions with lines and without."""
        for source, book, question, prices, pinned in surveys.cases(35000, 60, 3, 2):
            self.none_false(source, book, question, prices, pinned)
        self.none_false(references.source_of(1), TRIANGLE_BOOK, TRIANGLE, ONES, None)
        self.none_false(references.source_of(2), TRIANGLE_BOOK, TRIANGLE, ONES, (("r", (1, 1)),))

    def none_false(self, source, book, question, prices, pinned):
        case = book, question, prices, pinned
        price, cuts = surveys.all_least(*case)
        pairs = surveys.open_pairs(*case)
        ways = references.ways(book, question)
        claims = [(kind, pair) for kind in surveys.KINDS[:4] for pair in pairs]
        claims += [(kind, *rows) for kind in surveys.KINDS[4:] for rows in two_rows(pairs)[:6]]
        sets = [rows for rows in surveys.all_sets(pairs[:5]) if not references.ways(references.lost(book, rows),
            question)]
        for claim in claims:
            for rows in sets:
                amounts = tuple((way, source.randint(1, 3)) for way in ways if source.random() < 0.7)
                cost = references.price_of(prices, rows)
                if shows_claim(*case, claim, (cost, rows, amounts)):
                    self.assertTrue(surveys.is_true(claim, cuts), (case, claim, rows, amounts))
                    if claim[0] not in ("never both", "with"):
                        self.assertIn(rows, cuts)

    def test_each_kind_by_hand(self):
        """a(x, y) and b(y): the ways 1 5, 2 5 and 3 6; pinned (), prices 1 and 2."""
        book = {"a": (2, ((1, 5), (2, 5), (3, 6))), "b": (1, ((5,), (6,)))}
        question, prices = ((), (("a", ("x", "y")), ("b", ("y",)))), {"a": 1, "b": 2}
        case = book, question, prices, ()
        a, b, c, five, six = ("a", (1, 5)), ("a", (2, 5)), ("a", (3, 6)), ("b", (5,)), ("b", (6,))
        all_a, mixed, dear = (a, b, c), (c, five), (five, six)
        plain = (((1, 5), 1), ((2, 5), 1), ((3, 6), 1))
        right = [
            (("each", c), (3, all_a, (((1, 5), 1), ((2, 5), 1), ((3, 6), 2)))),
            (("not each", a), (3, mixed, plain)),
            (("not each", five), (3, all_a, plain)),
            (("some", five), (3, mixed, plain)),
            (("none", six), (3, all_a, plain)),
            (("never both", a, five), (3, all_a, (((2, 5), 1), ((3, 6), 1)))),
            (("both", c, five), (3, mixed, plain)),
            (("with", a, b), (3, all_a, (((2, 5), 2), ((3, 6), 1)))),
            (("with", five, c), (3, mixed, None)),
            (("not with", c, five), (3, all_a, plain)),
        ]
        for claim, paper in right:
            if paper[2] is None:
                self.assertEqual(about_rows(*case, *claim[1:])[1][0], claim)
                continue
            self.assertIs(shows_claim(*case, claim, paper), True, claim)
            self.assertTrue(surveys.judge_claim(*case, claim, paper), claim)
        # never both and with take a dearer cut, whose price the amounts then have to reach.
        self.assertIs(shows_claim(*case, ("never both", a, five), (4, dear, plain)), False)
        more = (((1, 5), 1), ((2, 5), 1), ((3, 6), 1))
        self.assertIs(shows_claim(*case, ("none", six), (4, dear, more)), False)
        self.assertIs(shows_claim(*case, ("both", c, c), (3, mixed, plain)), False)
        self.assertIs(shows_claim(*case, ("each", c), (3, all_a, plain)), False)
        self.assertIs(shows_claim(*case, ("both", c, five), (3, all_a, plain)), False)

    def test_never_both_with_price_0(self):
        book = {"a": (1, ((1,), (3,))), "b": (1, ((2,),))}
        one, other = ("a", (1,)), ("a", (3,))
        for claim in (("never both", one, other), ("with", one, other), ("none", one), ("not each", one)):
            self.assertIs(shows_claim(book, QUESTION, PRICES, None, claim, (0, (), ())), True)
        for claim in (("both", one, other), ("not with", one, other), ("some", one), ("each", one)):
            self.assertIs(shows_claim(book, QUESTION, PRICES, None, claim, (0, (), ())), False)
        # A cut that is no least one shows it, too, if no amounts are due.
        self.assertIs(shows_claim(book, QUESTION, PRICES, None, ("never both", one, other), (1, (one,), ())), True)
        self.assertIs(shows_claim(book, QUESTION, PRICES, None, ("none", other), (1, (one,), ())), False)

    def test_ruled_and_pinned_rows_carry_any_amount(self):
        self.assertIs(shows_claim(BOOK, QUESTION, PRICES, None, ("each", ROW), (1, (ROW,), (((1,), 2),))), True)
        self.assertIs(shows_claim(BOOK, QUESTION, PRICES, (), ("each", ROW), (1, (ROW,), (((1,), 2),))), False)
        self.assertIs(shows_claim(BOOK, QUESTION, PRICES, (OTHER,), ("each", ROW), (1, (ROW,), (((1,), 2),))), True)
        self.assertIs(shows_claim(BOOK, QUESTION, PRICES, None, ("each", OTHER), (1, (OTHER,), (((1,), 2),))), False)
        self.assertIs(shows_claim(BOOK, QUESTION, PRICES, None, ("not each", ROW), (1, (OTHER,), (((1,), 1),))), False)

    def test_any_objects(self):
        claim, paper = ("each", ROW), (1, (ROW,), (((1,), 2),))
        for thing in ANY_OBJECTS:
            self.assertIs(shows_claim(BOOK, QUESTION, PRICES, None, claim, thing), False)
            self.assertIs(shows_claim(BOOK, QUESTION, PRICES, None, thing, paper), False)
            for at in range(3):
                self.assertIs(shows_claim(BOOK, QUESTION, PRICES, None, claim, paper[:at] + (thing,) + paper[at + 1:]),
                              at == 0 and thing == 1 and thing is not True, shown(thing))
            self.assertIs(shows_claim(BOOK, QUESTION, PRICES, None, ("each", thing), paper), thing == ROW)
            self.assertIs(shows_claim(BOOK, QUESTION, PRICES, None, (thing, ROW), paper), False)

    def test_errors(self):
        for thing in NEVER_RIGHT:
            self.assertEqual(raised(shows_claim, LARGE, thing, None, "?", None, None), (NoQuestion, {}))
            self.assertEqual(raised(shows_claim, LARGE, ((), LARGE_ATOMS), thing, "?", None, None), (NoPrice, {}))
            if thing is not None:
                self.assertEqual(raised(shows_claim, BOOK, QUESTION, PRICES, thing, None, None), (NoRow, {}))
        for pinned in (None, ()):
            self.assertIs(shows_claim(TRIANGLE_BOOK, TRIANGLE, ONES, pinned, ("each", ("r", (1, 1))), 1), False)

    def test_too_many(self):
        book = {**LARGE, "e": (1, ((0,),))}
        question, prices = ((), LARGE_ATOMS + (("e", ("x",)),)), {"a": 2, "b": 1, "c": None, "e": 1}
        claim = ("each", ("e", (0,)))
        too_many = (TooMany, {"limit": 2000})
        rows = (("e", (0,)),)
        case = book, question, prices, None
        for price in (1, 0, -3, 10 ** 50):
            self.assertEqual(raised(shows_claim, *case, claim, (price, rows, None)), too_many)
        # The rows of a ruled table are no open rows, but shows_cut asks for them, too.
        self.assertEqual(raised(shows_claim, *case, claim, (1, (("a", (0,)),), ())), too_many)
        for thing in (None, (1, rows), (True, rows, ()), ("1", rows, ()), (1, rows, (), ()), [1, rows, ()]):
            self.assertIs(shows_claim(*case, claim, thing), False)
        for rows in ((("e", (1,)),), (("c", (0, 0)),), [("e", (0,))], (("e", (True,)),), (("e", (0,)),) * 2):
            self.assertIs(shows_claim(*case, claim, (1, rows, ())), False)
        rows = (("e", (0,)),)
        self.assertIs(shows_claim(*case, ("each", ("a", (0,))), (1, rows, ())), False)
        self.assertIs(shows_claim(*case[:3], (("b", (0,)),), claim, (1, (("b", (0,)),), ())), False)


if __name__ == "__main__":
    unittest.main()
