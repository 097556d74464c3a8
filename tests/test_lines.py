import itertools
import unittest

import references
from answercut import lines
from answercut.errors import NoLine
from answercut.lines import line_of, loose_tables, need_line, ruling, rulers, shows_line, shows_triad, triad_of
from changes import changes, some_changes
from oddities import ANY_OBJECTS, shown

TRIANGLE = ((), (("r", ("x", "y")), ("s", ("y", "z")), ("t", ("z", "x")), ("u", ("x",))))
# r, s and t only come to each other over the firm tables e, f and g.
STAR = ((), (
    ("e", ("x", "a")), ("r", ("x",)), ("f", ("a", "y")), ("s", ("y",)), ("g", ("a", "z")), ("t", ("z",)),
))


def ones(question):
    return {table: 1 for table, _ in question[1]}


def all_questions():
    """Questions of three and four atoms, one atom each of any of these."""
    parts = [("x",), ("x", "y"), ("y", "z"), ("z", "x"), ("x", "y", "z"), ("y",), (5,), ("u", "x")]
    for many in (3, 4):
        for chosen in itertools.product(parts if many == 3 else parts[:5], repeat=many):
            yield (), tuple(zip("badc", chosen))


class InterfaceTest(unittest.TestCase):
    def test_functions_are_defined_in_this_file(self):
        listed = (ruling, rulers, loose_tables, line_of, triad_of, need_line, shows_line, shows_triad)
        self.assertEqual({each.__module__ for each in listed}, {lines.__name__})

    def test_example(self):
        self.assertEqual(ruling(TRIANGLE, ones(TRIANGLE)), ("s", "u"))
        self.assertEqual(line_of(TRIANGLE, ("s", "u")), ("s", "u"))
        self.assertEqual(
            triad_of(TRIANGLE, ("r", "s", "t")), (("r", "s", "t"), (("r", "s"), ("r", "t"), ("s", "t")))
        )


class RulingTest(unittest.TestCase):
    def told(self, question, prices, rule, ruled):
        with self.subTest((question, prices)):
            self.assertEqual(ruling(question, prices), rule)
            self.assertEqual(rulers(question, prices), ruled)

    def test_fewer_names(self):
        question = ((), (("a", ("x", "y")), ("b", ("x",))))
        self.told(question, {"a": 2, "b": 1}, ("b",), (("a", "b"),))
        self.told(question, {"a": 2, "b": 2}, ("b",), (("a", "b"),))
        self.told(question, {"a": 2, "b": 3}, ("a", "b"), ())

    def test_names_that_do_not_lie_within_one_another(self):
        question = ((), (("a", ("x", "y")), ("b", ("y", "z"))))
        self.told(question, {"a": 1, "b": 5}, ("a", "b"), ())

    def test_equal_names(self):
        for parts in (("x", "y"), ("y", "x"), ("x", "y", "x"), ("y", 5, "x")):
            question = ((), (("b", ("x", "y")), ("a", parts)))
            self.told(question, {"a": 2, "b": 2}, ("b",), (("a", "b"),))
            self.told(question, {"a": 1, "b": 2}, ("a",), (("b", "a"),))
            self.told(question, {"a": 3, "b": 2}, ("b",), (("a", "b"),))

    def test_three_with_equal_names_and_prices(self):
        question = ((), (("c", ("x",)), ("a", ("x", "x")), ("b", ("x",))))
        self.told(question, {"a": 4, "b": 4, "c": 4}, ("c",), (("a", "c"), ("b", "c")))
        self.told(question, {"a": 4, "b": 4, "c": 5}, ("a",), (("c", "a"), ("b", "a")))
        self.told(question, {"a": 4, "b": 4, "c": None}, ("a",), (("b", "a"),))

    def test_the_first_ruling_table_of_several(self):
        question = ((), (("a", ("x", "y", "z")), ("b", ("z",)), ("c", ("y",)), ("d", ("y", "z"))))
        self.told(question, ones(question), ("b", "c"), (("a", "b"), ("d", "b")))
        self.told(question, {"a": 9, "b": 5, "c": 4, "d": 4}, ("b", "c"), (("a", "b"), ("d", "c")))

    def test_a_ruled_table_is_no_one_s_ruler(self):
        # a is ruled by b, which c rules.
        question = ((), (("a", ("x", "y", "z")), ("b", ("x", "y")), ("c", ("x",))))
        self.told(question, {"a": 3, "b": 2, "c": 1}, ("c",), (("a", "c"), ("b", "c")))

    def test_firm_tables(self):
        question = ((), (("a", ("x", "y")), ("b", ("x",)), ("c", ("y",))))
        self.told(question, {"a": 1, "b": None, "c": None}, ("a",), ())
        self.told(question, {"a": None, "b": 1, "c": 1}, ("b", "c"), ())
        self.told(question, {"a": None, "b": None, "c": None}, (), ())
        self.assertEqual(loose_tables(question, {"a": None, "b": None, "c": None}), ())
        self.assertEqual(loose_tables(question, {"c": 1, "a": 2, "b": None}), ("a", "c"))

    def test_tables_of_other_pieces(self):
        question = ((), (("a", ("x",)), ("b", ("y",)), ("c", ("x",)), ("d", ("y", "z"))))
        self.told(question, ones(question), ("a", "b"), (("c", "a"), ("d", "b")))

    def test_atoms_without_names(self):
        question = ((), (("a", (1,)), ("b", ("x",)), ("c", (1,)), ("d", (2, 1))))
        self.told(question, ones(question), ("a", "b", "c", "d"), ())

    def test_prices_as_large_as_can_be(self):
        question = ((), (("a", ("x",)), ("b", ("x",))))
        self.told(question, {"a": 10 ** 30, "b": 10 ** 30 - 1}, ("b",), (("a", "b"),))
        self.told(question, {"a": 10 ** 30, "b": 10 ** 30}, ("a",), (("b", "a"),))

    def test_against_trial(self):
        source = references.source_of(1)
        for _ in range(1500):
            question = references.some_question(source, 6)
            prices = references.some_prices(source, question)
            rule = references.ruling(question, prices)
            self.assertEqual(ruling(question, prices), rule)
            self.assertEqual(loose_tables(question, prices), references.loose_tables(question, prices))
            ruled = [
                (table, [other for other in rule if references.rules(question, prices, other, table)][0])
                for table in references.loose_tables(question, prices) if table not in rule
            ]
            self.assertEqual(rulers(question, prices), tuple(ruled))


class LineTest(unittest.TestCase):
    def agrees(self, question, tables):
        told, triad = references.lines(question, tables), references.triads(question, tables)
        self.assertNotEqual(bool(told), bool(triad), (question, tables))
        self.assertEqual(line_of(question, tables), told[0] if told else None, (question, tables))
        found = triad_of(question, tables)
        if told:
            self.assertIsNone(found, (question, tables))
            self.assertEqual(need_line(question, tables), told[0])
        else:
            self.walks(question, triad[0], found)
            with self.assertRaises(NoLine) as caught:
                need_line(question, tables)
            self.assertEqual(caught.exception.paper, found)
            self.assertIs(shows_triad(question, tables, found), True)

    def walks(self, question, triad, found):
        self.assertEqual(found[0], triad)
        one, two, three = triad
        for chain, turn in zip(found[1], [(one, two, three), (one, three, two), (two, three, one)], strict=True):
            self.assertLessEqual(len(chain), 6)
            self.assertTrue(references.is_chain(question, chain, *turn), (question, found))

    def test_few_tables(self):
        self.assertEqual(line_of(TRIANGLE, ()), ())
        self.assertEqual(line_of(TRIANGLE, ("t",)), ("t",))
        self.assertEqual(line_of(TRIANGLE, ("r", "t")), ("r", "t"))
        self.assertIsNone(triad_of(TRIANGLE, ()))
        self.assertIsNone(triad_of(TRIANGLE, ("r", "t")))

    def test_a_chain_of_atoms(self):
        question = ((), (("c", ("y", "z")), ("a", ("x", "y")), ("d", ("z", "u")), ("b", ("x",))))
        self.assertEqual(line_of(question, ("c", "a", "d")), ("a", "c", "d"))
        self.assertEqual(line_of(question, ("c", "a", "b")), ("c", "a", "b"))
        self.assertEqual(line_of(question, ("c", "a", "d", "b")), ("d", "c", "a", "b"))

    def test_the_least_line_by_the_places_of_the_tables(self):
        question = ((), (("z", ("x",)), ("b", ("x",)), ("a", ("x",))))
        self.assertEqual(line_of(question, ("z", "b", "a")), ("z", "b", "a"))

    def test_a_triad_over_other_tables(self):
        found = triad_of(STAR, ("r", "s", "t"))
        self.walks(STAR, ("r", "s", "t"), found)
        self.assertTrue(all(len(chain) == 4 for chain in found[1]))
        self.assertIsNone(line_of(STAR, ("r", "s", "t")))

    def test_six_tables(self):
        path = ((), tuple((f"t{k}", (f"x{k}", f"x{k + 1}")) for k in (3, 0, 5, 1, 4, 2)))
        self.assertEqual(line_of(path, tuple(table for table, _ in path[1])), ("t0", "t1", "t2", "t3", "t4", "t5"))
        ring = ((), tuple((f"t{k}", (f"x{k}", f"x{(k + 1) % 6}")) for k in (3, 0, 5, 1, 4, 2)))
        tables = tuple(table for table, _ in ring[1])
        self.assertIsNone(line_of(ring, tables))
        self.walks(ring, ("t3", "t0", "t5"), triad_of(ring, tables))

    def test_against_all_orders_and_triads(self):
        for question in all_questions():
            for piece in references.pieces(question):
                if len(piece) > 2:
                    self.agrees(question, piece)

    def test_some_tables_of_a_piece(self):
        source = references.source_of(2)
        for _ in range(1500):
            question = references.some_question(source, 6)
            piece = source.choice(references.pieces(question))
            self.agrees(question, tuple(table for table in piece if source.random() < 0.8))


class JudgeTest(unittest.TestCase):
    def test_lines(self):
        question = ((), (("c", ("y", "z")), ("a", ("x", "y")), ("d", ("z", "u")), ("b", ("x",))))
        tables = ("c", "a", "d", "b")
        right = references.lines(question, tables)
        self.assertIn(("b", "a", "c", "d"), right)
        for order in itertools.permutations(tables):
            self.assertIs(shows_line(question, tables, order), order in right)

    def test_lines_of_some_tables(self):
        self.assertIs(shows_line(TRIANGLE, (), ()), True)
        self.assertIs(shows_line(TRIANGLE, ("r",), ("r",)), True)
        for thing in ((), ("s",), ("r", "s"), ("r", "r"), ["r"], "r", ("r", None), (("r",),)):
            self.assertIs(shows_line(TRIANGLE, ("r",), thing), False)
        for thing in (("r", "s"), ("s", "r")):
            self.assertIs(shows_line(TRIANGLE, ("r", "s"), thing), True)
        self.assertIs(shows_line(TRIANGLE, ("r", "s"), ("r", "r")), False)
        self.assertIs(shows_line(TRIANGLE, ("r", "s", "t"), ("r", "s", "t")), False)

    def test_a_triad_in_any_order(self):
        found = {("r", "s"): ("r", "s"), ("s", "t"): ("s", "t"), ("r", "t"): ("r", "u", "t")}
        found.update({(end, start): chain[::-1] for (start, end), chain in found.items()})
        for one, two, three in itertools.permutations(("r", "s", "t")):
            chains = found[(one, two)], found[(one, three)], found[(two, three)]
            self.assertIs(shows_triad(TRIANGLE, ("r", "s", "t"), ((one, two, three), chains)), True)
            self.assertIs(shows_triad(TRIANGLE, ("r", "s", "t"), ((three, one, two), chains)), False)
            self.assertIs(shows_triad(TRIANGLE, ("r", "s"), ((one, two, three), chains)), False)

    def test_a_chain_that_leads_through_the_table_it_is_to_lead_past(self):
        right = (("r", "s", "t"), (("r", "s"), ("r", "t"), ("s", "t")))
        self.assertIs(shows_triad(TRIANGLE, ("r", "s", "t"), right), True)
        wrong = (("r", "s", "t"), (("r", "t", "s"), ("r", "t"), ("s", "t")))
        self.assertIs(shows_triad(TRIANGLE, ("r", "s", "t"), wrong), False)

    def test_a_chain_may_come_to_a_table_more_than_once(self):
        long = (("r", "s", "t"), (("r", "s", "r", "s", "r", "s", "r", "s"), ("r", "u", "r", "u", "t"), ("s", "t")))
        self.assertIs(shows_triad(TRIANGLE, ("r", "s", "t"), long), True)

    def test_any_objects(self):
        for thing in ANY_OBJECTS + [("r", "s", "t"), (("r", "s", "t"), ()), (("r", "s", "t"), ((), (), ()))]:
            with self.subTest(shown(thing)):
                self.assertIs(shows_line(TRIANGLE, ("r", "s"), thing), False)
                self.assertIs(shows_triad(TRIANGLE, ("r", "s", "t"), thing), False)

    def test_changed_at_any_place(self):
        for question, tables in ((TRIANGLE, ("r", "s", "t")), (STAR, ("r", "s", "t"))):
            for thing in changes(triad_of(question, tables)):
                told = references.judge_triad(question, tables, thing)
                self.assertIs(shows_triad(question, tables, thing), told, thing)
        question = ((), (("c", ("y", "z")), ("a", ("x", "y")), ("d", ("z", "u")), ("b", ("x",))))
        for thing in changes(line_of(question, ("c", "a", "d", "b"))):
            told = references.judge_line(question, ("c", "a", "d", "b"), thing)
            self.assertIs(shows_line(question, ("c", "a", "d", "b"), thing), told, thing)

    def test_against_trial(self):
        source = references.source_of(3)
        for _ in range(300):
            question = references.some_question(source, 6)
            piece = source.choice(references.pieces(question))
            line, triad = line_of(question, piece), triad_of(question, piece)
            for thing in some_changes(source, line if triad is None else triad, 20):
                self.assertIs(shows_line(question, piece, thing), references.judge_line(question, piece, thing), thing)
                self.assertIs(
                    shows_triad(question, piece, thing), references.judge_triad(question, piece, thing), thing
                )


if __name__ == "__main__":
    unittest.main()
