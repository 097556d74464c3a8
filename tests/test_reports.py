import copy
import unittest

import references
from answercut import reports
from answercut.errors import NoLine, NoPrice, NoQuestion, NoRow, NoTable, RowTaken, TooMany
from answercut.lines import line_of
from answercut.reports import falls, hardening, report, standing, weakest, wish
from helpers import keeps_arguments, raised
from oddities import ANY_OBJECTS

BIG = 10 ** 30
SIXTY = tuple((k,) for k in range(60))
BOOK = {"a": (2, ((1, 5), (1, 6), (2, 6))), "b": (1, ((5,), (6,)))}
ATOMS = (("a", ("x", "y")), ("b", ("y",)))
QUESTION = (("x",), ATOMS)
PRICES = {"a": 2, "b": 3}
LARGE = {"a": (1, SIXTY), "b": (1, SIXTY), "c": (2, ((0, 0),)), "d": (1, ((1,),)), "e": (2, ((0, 0),))}
LARGE_ATOMS = (("a", ("x",)), ("b", ("y",)), ("c", ("x", "y")))
# Closed by an answer for g, the atoms r, s and t are left without a line.
TRIANGLE_ATOMS = (("r", ("g", "p", "q")), ("s", ("q", "w")), ("t", ("w", "p")))
TRIANGLE = {"r": (3, ((7, 1, 1), (8, 1, 1))), "s": (2, ((1, 1),)), "t": (2, ((1, 1),))}
MUCH = (TooMany, {"limit": 2000})


def has_lines(question, prices):
    tables = [references.line_tables(question, prices, None, piece) for piece in references.pieces(question)]
    return all(line_of(question, some) is not None for some in tables)


def cases(first, many):
    """Small books, questions with some head names, and prices; each answer's question has lines."""
    for number in range(first, first + many):
        source = references.source_of(number)
        _, atoms = references.some_question(source, 3)
        names = references.names_of(((), atoms))
        question = tuple(source.sample(names, source.randint(0, len(names)))), atoms
        book = references.some_book(source, question, 5, 3)
        prices = references.some_prices(source, question)
        zeros = references.put_answer(question, (0,) * len(question[0]))
        if len(references.loose_pairs(book, question, prices)) < 12 and has_lines(zeros, prices):
            yield source, book, question, prices


class InterfaceTest(unittest.TestCase):
    def test_functions_are_defined_in_this_file(self):
        listed = (report, weakest, standing, falls, wish, hardening)
        self.assertEqual({each.__module__ for each in listed}, {reports.__name__})

    def test_example(self):
        closed = ((), (("a", (3, "y")), ("b", ("y",))))
        self.assertEqual(report(BOOK, QUESTION, PRICES), [((1,), 4), ((2,), 2)])
        self.assertEqual(falls(BOOK, QUESTION, (("b", (6,)),)), [(2,)])
        offers = {"a": {(3, 7): 1, (3, 5): 4}, "b": {(7,): 2}}
        self.assertEqual(wish(BOOK, closed, offers), (3, (("a", (3, 7)), ("b", (7,)))))
        question = ((), (("a", (2, "y")), ("b", ("y",))))
        told = hardening(BOOK, question, PRICES, {"a": {(2, 5): 1}, "b": {(8,): 1}})
        self.assertEqual(told, [(4, "a", (2, 5))])


class ReportTest(unittest.TestCase):
    def test_answer_by_answer(self):
        seen = set()
        for source, book, question, prices in cases(0, 500):
            expected = [(answer, references.least_price(book, references.put_answer(question, answer), prices))
                        for answer in references.answers(book, question)]
            self.assertEqual(report(book, question, prices), expected)
            known = sorted(price for _, price in expected if price is not None)
            least = known[0] if known else None
            self.assertEqual(weakest(book, question, prices), [answer for answer, price in expected if price == least])
            for limit in (-1, 0, 1, 2, 3, 5, 100):
                told = [answer for answer, price in expected if price is None or price > limit]
                self.assertEqual(standing(book, question, prices, limit), told)
            seen |= {price for _, price in expected}
        self.assertTrue({None, 1, 2, 3, 4} <= seen)

    def test_closed_questions(self):
        self.assertEqual(report(BOOK, ((), ATOMS), PRICES), [((), 5)])
        self.assertEqual(weakest(BOOK, ((), ATOMS), PRICES), [()])
        self.assertEqual(report(BOOK, ((), (("b", (7,)),)), {"b": 1}), [])
        self.assertEqual(report({"b": (1, ((7,),))}, ((), (("b", (7,)),)), {"b": None}), [((), None)])

    def test_questions_without_answers(self):
        question = (("x",), (("a", ("x", "y")), ("b", ("y",)), ("c", ("z",))))
        book = {**BOOK, "c": (1, ())}
        for prices in (None, {}, {"a": 0}, {"a": 1, "b": 2, "c": 3}, [], "prices"):
            self.assertEqual(report(book, question, prices), [])
            self.assertEqual(weakest(book, question, prices), [])
            self.assertEqual(standing(book, question, prices, 3), [])

    def test_answers_without_a_cut(self):
        firm = {"a": None, "b": None}
        self.assertEqual(report(BOOK, QUESTION, firm), [((1,), None), ((2,), None)])
        self.assertEqual(weakest(BOOK, QUESTION, firm), [(1,), (2,)])
        self.assertEqual(standing(BOOK, QUESTION, firm, 10 ** 50), [(1,), (2,)])
        book = {**BOOK, "c": (2, ((1, 1), (1, 2), (2, 1)))}
        question = (("x",), (("c", ("x", "z")), ("b", (5,))))
        self.assertEqual(report(book, question, {"b": BIG, "c": 1}), [((1,), 2), ((2,), 1)])
        self.assertEqual(report(book, question, {"b": None, "c": BIG}), [((1,), 2 * BIG), ((2,), BIG)])
        self.assertEqual(weakest(book, question, {"b": None, "c": BIG}), [(2,)])
        self.assertEqual(standing(book, question, {"b": None, "c": BIG}, BIG), [(1,)])

    def test_many_answers(self):
        book = {"a": (2, tuple((k // 8, k) for k in range(60))), "b": (1, SIXTY[:30])}
        question = (("x", "z", "y"), (("a", ("x", "y")), ("b", ("z",))))
        told = report(book, question, {"a": 5, "b": 7})
        self.assertEqual(len(told), 1800)
        self.assertEqual({price for _, price in told}, {5})

    def test_errors(self):
        for function in (report, weakest, lambda *told: standing(*told, 5)):
            for question in (None, (("q",), ATOMS), (("x",), (("a", ("x",)),)), (("x",), (("c", ("x",)),))):
                self.assertEqual(raised(function, BOOK, question, None)[0], NoQuestion)
            large = (("x",), LARGE_ATOMS)
            self.assertEqual(raised(function, LARGE, large, None), MUCH)
            apart = (("x",), (("a", ("x",)), ("b", ("y",))))
            self.assertEqual(raised(function, LARGE, apart, None), MUCH)
            for prices in (None, {}, {"a": 0, "b": 1}, {**PRICES, "c": 1}):
                self.assertEqual(raised(function, BOOK, QUESTION, prices)[0], NoPrice)
            question = (("g",), TRIANGLE_ATOMS)
            kind, fields = raised(function, TRIANGLE, question, {"r": 1, "s": 1, "t": 1})
            self.assertEqual((kind, fields["paper"][0]), (NoLine, ("r", "s", "t")))
            self.assertEqual(raised(function, TRIANGLE, question, {"r": 1, "s": 1, "t": 0})[0], NoPrice)
            self.assertIsNone(raised(function, TRIANGLE, question, {"r": None, "s": 1, "t": 1}))


class FallsTest(unittest.TestCase):
    def test_rows_that_are_there_and_not(self):
        self.assertEqual(falls(BOOK, QUESTION, ()), [])
        self.assertEqual(falls(BOOK, QUESTION, (("b", (9,)), ("c", (6,)), ("b", (5,)))), [])
        self.assertEqual(falls(BOOK, QUESTION, (("b", (5,)), ("b", (6,)))), [(1,), (2,)])
        self.assertEqual(falls(BOOK, (("y", "x"), ATOMS), (("b", (6,)), ("b", (6,)))), [(6, 1), (6, 2)])

    def test_against_trial(self):
        for source, book, question, prices in cases(1000, 200):
            pairs = [(table, row) for table, (_, rows) in book.items() for row in rows]
            chosen = tuple(pair for pair in pairs if source.random() < 0.3)
            left = references.answers(references.lost(book, chosen), question)
            expected = [answer for answer in references.answers(book, question) if answer not in left]
            self.assertEqual(falls(book, question, chosen), expected)

    def test_it_falls_by_a_told_cut(self):
        question, prices = (("x",), ATOMS), PRICES
        self.assertEqual(falls(BOOK, question, (("a", (1, 5)), ("a", (1, 6)))), [(1,)])
        self.assertEqual(standing(BOOK, question, prices, 3), [(1,)])

    def test_errors(self):
        self.assertEqual(raised(falls, BOOK, (("q",), ATOMS), ())[0], NoQuestion)
        self.assertEqual(raised(falls, LARGE, ((), LARGE_ATOMS), tuple(("a", row) for row in SIXTY)), MUCH)


class WishTest(unittest.TestCase):
    def test_against_all_sets_of_offered_rows(self):
        kinds = {"nothing needed": 0, "no help": 0, "wish": 0, "more rows": 0}
        for number in range(900):
            source = references.source_of(number)
            question = references.some_question(source, 3)
            book = references.some_book(source, question, 2, 3)
            offers = references.some_offers(source, book)
            if sum(len(rows) for rows in offers.values()) < 9:
                told = wish(book, question, offers)
                self.assertEqual(told, references.wish(book, question, offers), (book, question, offers))
                kind = "no help" if told is None else "nothing needed" if told == (0, ()) else "wish"
                kinds[kind] += 1
                kinds["more rows"] += told is not None and len(told[1]) > 1
        self.assertTrue(all(many > 15 for many in kinds.values()), kinds)

    def test_price_then_number_then_the_first(self):
        book = {"a": (1, ()), "b": (1, ((5,),))}
        question = ((), (("b", ("y",)), ("a", ("x",))))
        self.assertEqual(wish(book, question, {"a": {(9,): 2, (3,): 2, (4,): 3}}), (2, (("a", (3,)),)))
        book = {"a": (1, ((1,),)), "b": (1, ((2,), (7,)))}
        question = ((), (("a", ("x",)), ("b", ("x",))))
        # One row for 2 goes ahead of two rows for 1 each.
        self.assertEqual(wish(book, question, {"b": {(3,): 1, (1,): 2}, "a": {(3,): 1}}), (2, (("b", (1,)),)))
        self.assertEqual(wish(book, question, {"b": {(1,): 2}, "a": {(2,): 2, (7,): 2}}), (2, (("a", (2,)),)))
        self.assertEqual(wish(book, question, {"b": {(1,): 3}, "a": {(7,): 2}}), (2, (("a", (7,)),)))
        self.assertEqual(wish(book, question, {"b": {(3,): 1, (1,): BIG}, "a": {(3,): BIG}}), (BIG, (("b", (1,)),)))

    def test_offers_that_do_not_help(self):
        book = {"a": (1, ((1,),)), "b": (1, ()), "c": (1, ())}
        question = ((), (("a", ("x",)), ("b", ("x",))))
        for offers in ({}, {"c": {}}, {"a": {}}, {"b": {(2,): 1}, "a": {(3,): 1}}, {"c": {(1,): 1}}):
            self.assertIsNone(wish(book, question, offers))
        self.assertEqual(wish(book, ((), (("a", ("x",)),)), {"a": {(5,): 1}, "c": {(1,): 1}}), (0, ()))

    def test_more_than_sixty_rows(self):
        book = {"a": (1, SIXTY), "b": (1, ((100,),))}
        question = ((), (("a", ("x",)), ("b", ("x",))))
        offers = {"a": {(k,): 7 for k in range(60, 300)}}
        self.assertEqual(wish(book, question, offers), (7, (("a", (100,)),)))
        closed = ((), (("b", ("x",)), ("a", ("x",))))
        self.assertEqual(hardening(book, closed, {"a": None, "b": 1}, offers), [(1, "a", (100,))])

    def test_wrong_offers(self):
        question = ((), ATOMS)
        right = {(9,): 1}
        for function in (wish, lambda book, asked, offers: hardening(book, asked, PRICES, offers)):
            def kind(offers):
                return raised(function, {**BOOK, "d": (1, ())}, question, offers)[0]
            for offers in ANY_OBJECTS + [{"c": right}, {"b": right, "c": right}, {"b": {(9,): 0}, "c": 5}, [("b", right)]]:
                if not isinstance(offers, dict) or any(key not in ("a", "b") for key in offers):
                    self.assertEqual(kind(offers), NoTable)
            for wrong in (thing for thing in ANY_OBJECTS if not isinstance(thing, dict)):
                self.assertEqual(kind({"b": wrong}), NoRow)
                self.assertEqual(kind({"b": right, "d": wrong}), NoRow)
            for row in ((), (1, 2), (-1,), (True,), 9, "b", None, (BIG + 1,), (None,), ("x",)):
                self.assertEqual(kind({"b": {row: 1}}), NoRow)
                self.assertEqual(kind({"b": {(9,): 1, row: 0}}), NoRow)
            self.assertEqual(kind({"b": {(5,): 0}}), RowTaken)
            for price in ANY_OBJECTS + [BIG + 1]:
                if price not in (1, 6, BIG) or price is True:
                    self.assertEqual(kind({"b": {(9,): price}}), NoPrice)
            # Table by table, row by row, in the order of the dicts.
            self.assertEqual(kind({"b": {(9,): 0, (5,): 1}, "a": None}), NoPrice)
            self.assertEqual(kind({"a": None, "b": {(9,): 0}}), NoRow)
            self.assertEqual(kind({"b": {(5,): 1, (9,): 0}}), RowTaken)
            self.assertEqual(kind({"b": {(9,): 0}, "a": {(1, 5): 1}}), NoPrice)
            self.assertEqual(kind({"a": {(1, 5): 1}, "b": {(9,): 0}}), RowTaken)
            self.assertIsNone(raised(function, BOOK, question, {"b": {(9,): BIG}, "a": {}}))

    def test_what_wish_raises_first(self):
        for question in (None, QUESTION, ((), (("c", ("x",)),))):
            self.assertEqual(raised(wish, BOOK, question, None)[0], NoQuestion)
        self.assertEqual(raised(wish, LARGE, ((), LARGE_ATOMS), {"x": {}})[0], NoTable)
        self.assertEqual(raised(wish, LARGE, ((), LARGE_ATOMS), {"a": {(3,): 1}})[0], RowTaken)
        self.assertEqual(raised(wish, LARGE, ((), LARGE_ATOMS), {}), MUCH)

    def test_too_large_with_all_offered_rows(self):
        book = {"a": (1, SIXTY[:40]), "b": (1, SIXTY[:50]), "c": (1, ())}
        question = ((), (("a", ("x",)), ("b", ("y",))))
        self.assertEqual(wish(book, question, {}), (0, ()))
        # Pieces are not taken by themselves here.
        self.assertEqual(raised(wish, book, question, {"a": {(40,): 1}}), MUCH)
        self.assertIsNone(raised(wish, book, ((), (("c", ("z",)),) + question[1]), {"a": {(40,): 1}}))
        self.assertEqual(raised(wish, book, ((), question[1] + (("c", ("z",)),)), {"a": {(40,): 1}}), MUCH)


class HardeningTest(unittest.TestCase):
    def test_against_trial(self):
        found = {"none": 0, "hard": 0}
        for number in range(700):
            source = references.source_of(number)
            question = references.some_question(source, 3)
            book = references.some_book(source, question, 4, 3)
            prices = references.some_prices(source, question)
            if len(references.loose_pairs(book, question, prices)) > 10 or not has_lines(question, prices):
                continue
            offers = references.some_offers(source, book)
            now = references.least_price(book, question, prices)
            expected = []
            for table, rows in offers.items():
                for row in rows:
                    then = references.least_price(references.with_offers(book, {table: [row]}), question, prices)
                    if now is not None and (then is None or then > now):
                        expected.append((then, table, row))
            expected.sort(key=lambda told: (told[0] is not None, -(told[0] or 0), told[1:]))
            self.assertEqual(hardening(book, question, prices, offers), expected)
            found["none"] += any(price is None for price, _, _ in expected)
            found["hard"] += len(expected) > 1
        self.assertTrue(found["none"] > 2 and found["hard"] > 20, found)

    def test_its_order(self):
        book = {"b": (2, ((1, 1),)), "a": (1, ((1,), (2,))), "c": (1, ())}
        question = ((), (("b", ("x", "y")), ("a", ("x",))))
        prices = {"a": 9, "b": 2}
        offers = {"b": {(2, 9): 1, (1, 0): BIG, (2, 8): 5, (3, 3): 1}, "c": {(1,): 1}, "a": {(5,): 1}}
        self.assertEqual(hardening(book, question, prices, offers), [(4, "b", (1, 0)), (4, "b", (2, 8)), (4, "b", (2, 9))])
        prices = {"a": 1, "b": None}
        self.assertEqual(hardening(book, question, prices, offers), [(2, "b", (2, 8)), (2, "b", (2, 9))])
        book = {"a": (1, ()), "c": (1, ((1,),)), "d": (1, ((2,),))}
        question = ((), (("d", ("y",)), ("c", ("x",)), ("a", ("x",))))
        prices = {"a": None, "c": None, "d": 3}
        self.assertEqual(hardening(book, question, prices, {"a": {(2,): 1, (1,): 1}}), [(3, "a", (1,))])
        question = ((), (("c", ("x",)), ("a", ("x",))))
        prices = {"a": None, "c": None}
        self.assertEqual(hardening(book, question, prices, {"c": {(4,): 1}, "a": {(2,): 1, (1,): 1}}), [(None, "a", (1,))])

    def test_none_first_then_the_greatest(self):
        # With a row of the firm table a the question stands on it, if b, which is firm too, has it; c is loose.
        book = {"a": (2, ((1, 1),)), "b": (1, ((1,), (2,))), "c": (1, ((1,),))}
        question, prices = ((), (("a", ("x", "y")), ("b", ("x",)), ("c", ("y",)))), {"a": None, "b": 2, "c": 5}
        told = hardening(book, question, prices, {"a": {(2, 1): 1, (3, 1): 1}, "c": {(7,): 1}, "b": {(4,): 1}})
        self.assertEqual(told, [(4, "a", (2, 1))])
        prices = {"a": 3, "b": None, "c": None}
        told = hardening(book, question, prices, {"a": {(2, 1): 1, (1, 2): 1}, "c": {(2,): 1}})
        self.assertEqual(told, [(6, "a", (2, 1))])
        self.assertEqual(hardening(book, question, dict.fromkeys("abc"), {"a": {(2, 1): 1}}), [])

    def test_what_it_raises_first(self):
        for question in (None, QUESTION):
            self.assertEqual(raised(hardening, BOOK, question, None, None)[0], NoQuestion)
        self.assertEqual(raised(hardening, BOOK, ((), ATOMS), {"a": 1}, None)[0], NoPrice)
        atoms = tuple((table, parts[-2:]) for table, parts in TRIANGLE_ATOMS)
        book = {table: (2, ()) for table in "rst"}
        self.assertEqual(raised(hardening, book, ((), atoms), dict.fromkeys("rst", 1), None)[0], NoLine)
        self.assertEqual(raised(hardening, LARGE, ((), LARGE_ATOMS), dict.fromkeys("abc", 1), None), MUCH)
        self.assertEqual(raised(hardening, BOOK, ((), ATOMS), PRICES, None)[0], NoTable)

    def test_too_large_with_an_offered_row_by_itself(self):
        book = {"a": (1, SIXTY[:40]), "b": (1, SIXTY[:50]), "c": (2, ((0, 0),))}
        question, prices = ((), (("a", ("x",)), ("b", ("y",)), ("c", ("x", "y")))), dict.fromkeys("abc", 1)
        self.assertEqual(hardening(book, question, prices, {"c": {(0, 1): 1, (1, 1): 1}}), [(2, "c", (1, 1))])
        self.assertEqual(raised(hardening, book, question, prices, {"c": {(0, 1): 1}, "b": {(77,): 1}}), MUCH)
        # Wrong offers go ahead of it, wherever they stand.
        self.assertEqual(raised(hardening, book, question, prices, {"b": {(77,): 1}, "c": {(0, 0): 1}})[0], RowTaken)
        # All offered rows together would be too many, and more than sixty rows.
        turned = ((), question[1][::-1])
        offers = {"c": {(j, k): 1 for j in range(1, 40) for k in range(1, 3)}, "a": {(50 + k,): 1 for k in range(60)}}
        self.assertEqual(len(hardening(book, turned, prices, offers)), 78)
        apart = ((), (("a", ("x",)), ("b", ("y",))))
        self.assertEqual(hardening(book, apart, {"a": 1, "b": 1}, {"a": {(50,): 1}, "b": {(55,): 1}}), [(41, "a", (50,))])


class ArgumentsTest(unittest.TestCase):
    def test_no_argument_is_modified(self):
        for source, book, question, prices in cases(5000, 60):
            offers = references.some_offers(source, book)
            zeros = references.put_answer(question, (0,) * len(question[0]))
            told = [
                keeps_arguments(self, report, book, question, prices), keeps_arguments(self, weakest, book, question, prices),
                keeps_arguments(self, standing, book, question, prices, 2), keeps_arguments(self, falls, book, question, ()),
                keeps_arguments(self, wish, book, zeros, offers), keeps_arguments(self, hardening, book, zeros, prices, offers),
            ]
            self.assertIsNot(report(book, question, prices), told[0])
            kept = copy.deepcopy(told)
            book.clear()
            prices.clear()
            offers.clear()
            self.assertEqual(told, kept)


if __name__ == "__main__":
    unittest.main()
