import unittest

import references
import surveys
from answercut import keeperconsole as module
from answercut.console import Console
from answercut.errors import (
    InvalidCommand, NameTaken, NoAnswer, NoLine, NoMark, NoPrice, NoQuestion, NoRow, NotNested, NoTable, RowTaken,
    SyntaxProblem,
    TooMany,
)
from answercut.groups import all_gone, any_gone, sparing
from answercut.keeperconsole import KeeperConsole
from answercut.keepers import Keeper
from answercut.nets import shows_least
from answercut.orders import Order, shows_order
from answercut.papers import format_claim, format_moving, format_order, format_roof, format_sets
from answercut.roofs import shows_roof
from answercut.texts import format_book, format_paper, format_prices, format_question, parse_book, parse_paper
from answercut.texts import parse_prices, parse_question
from answercut.weights import growths
from helpers import raised, result
from test_keepers import QUESTIONS, WIDTHS

BIG = 10 ** 30
BEGUN = ("table a 1", "table b 2", "come a 1", "come b 1 5", "keep q : <- a(x), b(x, y) : a 3, b 2")
MOVED = BEGUN + ("come b 1 6", "move q : a 3 0, b 1 1")
TRIANGLE = "r(p, q), s(q, w), t(w, p)"


def begun(*lines):
    console = KeeperConsole()
    for line in lines:
        console.execute(line)
    return console


def all_of(console):
    """All that a console tells of its keeper."""
    told = [console.execute(line) for line in ("book", "pins", "notes", "questions", "held")]
    names = [line.split(" ")[0] for line in told[3].split("\n") if told[3] != "nothing"]
    numbers = [part.split(" ")[0] for part in told[4].split(", ") if told[4] != "nothing"]
    lines = [f"{word} {name}" for name in names for word in ("cut", "cuts", "roof", "front")]
    return told + [result(console.execute, line) for line in lines + [f"paper {number}" for number in numbers]]


class ConsoleTest(unittest.TestCase):
    def told(self, console, *pairs):
        for line, answer in pairs:
            self.assertEqual(console.execute(line), answer, line)

    def refuse(self, console, kind, *lines, **fields):
        before = all_of(console)
        for line in lines:
            error = raised(console.execute, line)
            self.assertIsNotNone(error, line)
            self.assertIs(error[0], kind, line)
            if fields:
                self.assertEqual(error[1], fields, line)
            self.assertEqual(all_of(console), before, line)


class AnswerTest(ConsoleTest):
    def test_class_is_defined_in_this_file(self):
        self.assertEqual(KeeperConsole.__module__, module.__name__)
        self.assertIn("execute", vars(KeeperConsole))

    def test_example(self):
        console = KeeperConsole()
        lines = BEGUN + ("hold q least", "come b 1 6")
        self.assertEqual([console.execute(line) for line in lines][4:],
            ["turned q cut orders", "ok", "turned q cut orders, 0 wrong"])
        self.told(console, ("held", "0 q wrong"), ("move q : a 3 0, b 2 1", "turned q roof"), ("front q", "3 0"),
            ("at q 1 2", "3/1"),
                  ("cuts q", "a 1"), ("any x <- b(x, y) : b 1 : 1", "1 2"))

    def test_nothing_and_none(self):
        self.told(KeeperConsole(), ("book", ""), ("pins", "nothing"), ("notes", "0"), ("questions", "nothing"),
            ("held", "nothing"),
                  ("back 0", "ok"))
        console = begun("table a 1", "keep q : <- a(x) : a 1", "keep w : <- a(x) : a firm")
        self.told(
            console, ("cuts q", "nothing"), ("cuts w", "nothing"), ("growths q", "nothing"), ("hold q orders", "ok"),
            ("paper 0", "none"),
            ("move q : a 1 0", "turned q roof"), ("front q", "0 0"), ("at q 5 3", "0/1"), ("below q 0 1", "nothing"),
            ("roof q", "roof\nfrom 0 1 0 0\nend"), ("come a 1", "turned q cut orders roof, w cut, 0 wrong"),
            ("cuts w", "none"), ("cut w", "stands 1"), ("growths q", "a 1 1/1"), ("growths w", "nothing"),
            ("move w : a firm", "turned w roof"),
            ("front w", "none"), ("at w 0 1", "none"), ("below w 7 1", "none"), ("roof w", "stands 1"),
            ("hold w roof", "ok"),
            ("paper 1", "stands 1"), ("hold w least", "ok"), ("paper 2", "stands 1"),
            ("any x <- a(x) : a firm : 1", "none"),
            ("any x <- a(x) : a 1 : none", "none"), ("all x <- a(x) : a 1 : none", "cut 0"),
            ("all x <- a(x) : a firm : 1", "stands 1"),
            ("spared x <- a(x) : a 1 : 1 : 1", "none\nset\nrow a 1\nstands"),
            ("held", "0 q wrong, 1 w right, 2 w right"),
        )

    def test_deeds(self):
        console = begun(*BEGUN)
        self.told(
            console, ("hold q a 1", "ok"), ("hold q b 1 5", "ok"), ("hold q least", "ok"), ("hold q orders", "ok"),
            ("held", "0 q right, 1 q right, 2 q right, 3 q right"),
            ("come b 1 6", "turned q cut orders, 0 wrong, 1 wrong, 2 wrong, 3 wrong"),
            ("pin a 1", "turned q cut orders"),
            ("pins", "a 1"), ("unpin a 1", "turned q cut orders"), ("go b 1 6",
            "turned q cut orders, 0 right, 1 right, 2 right, 3 right"),
            ("drop 1", "ok"), ("held", "0 q right, 2 q right, 3 q right"), ("hold q a 1 and b 1 5", "ok"),
            ("held", "0 q right, 2 q right, 3 q right, 4 q right"),
            ("move q : b 1 1, a 3 0", "turned q roof"), ("hold q roof", "ok"), ("still q", "turned q roof, 5 wrong"),
            ("held", "0 q right, 2 q right, 3 q right, 4 q right, 5 q wrong"),
            ("questions", "q : <- a(x), b(x, y) : a 3, b 2"), ("move q : b 1 1, a 3 0", "turned q roof, 5 right"),
            ("questions", "q : <- a(x), b(x, y) : a 3, b 2 : b 1 1, a 3 0"),
            ("keep w : <- a(x) : a 1", "turned w cut orders"),
            ("go a 1", "turned q cut orders roof, w cut orders, 0 wrong, 2 wrong, 3 wrong, 4 wrong, 5 wrong"),
            ("come a 1", "turned q cut orders roof, w cut orders, 0 right, 2 right, 3 right, 4 right, 5 right"),
            ("questions", "q : <- a(x), b(x, y) : a 3, b 2 : b 1 1, a 3 0\nw : <- a(x) : a 1"),
            ("forget q", "turned q cut orders roof"),
            ("forget w", "turned w cut orders"), ("held", "nothing"), ("notes", "24"), ("back 5", "ok"), ("notes", "5"),
            ("book", "table a 1\nrow a 1\ntable b 2\nrow b 1 5"), ("table c 6", "ok"),
            (f"come c 0 1 2 3 4 {BIG}", "ok"),
            (f"pin c 0 1 2 3 4 {BIG}", "ok"), ("back 0", "ok"), ("book", ""),
        )

    def test_a_deed_that_turns_certificates_alone(self):
        console = begun(*BEGUN[:4], "keep q : <- a(x), b(x, y) : a 1, b 3", "hold q least", "come b 1 6")
        self.told(console, ("go b 1 5", "turned 0 wrong"), ("hold q least", "ok"), ("come b 1 5", "turned 0 right"),
                  ("go b 1 6", "turned 1 wrong"), ("held", "0 q right, 1 q wrong"))

    def test_cuts(self):
        console = begun("table a 1", "table b 1", *[f"come {table} {k}" for table in "ab" for k in (1, 2)],
            "keep q : <- a(x), b(x) : a 1, b 1")
        self.told(console, ("cuts q", "a 1, a 2"), ("come b 3", "ok"), ("pin b 3", "turned q orders"),
                  ("cuts q", "a 1, a 2\na 1, b 2\na 2, b 1\nb 1, b 2"), ("pin a 1", "turned q cut orders"),
                  ("cuts q", "a 2, b 1\nb 1, b 2"),
                  ("keep w : <- a(x), b(y) : a 2, b firm", "turned w cut orders"), ("cuts w", "none"))

    def test_fronts(self):
        console = begun("table a 1", "table b 2", *[f"come a {k}" for k in range(3)],
            *[f"come b {k} {j}" for k in range(3) for j in range(k + 1)],
                        "keep q : <- a(x), b(x, y) : a 1, b 1", "move q : a 0 2, b 3 0")
        self.told(
            console, ("front q", "0 6, 3 4, 9 2, 18 0"), ("at q 0 1", "0/1"), ("at q 3 2", "9/1"), ("at q 1 1", "6/1"),
            ("at q 9 4", "12/1"),
            ("at q 9 2", "18/1"), ("at q 900 200", "18/1"), (f"at q {BIG} 1", "18/1"),
            (f"at q 1 {BIG}", f"3/{BIG // 2}"), ("below q 0 1", "a 0, a 1, a 2"),
            ("below q 3 2", "a 1, a 2, b 0 0"), ("below q 6 4", "a 1, a 2, b 0 0"), ("below q 2 1", "a 1, a 2, b 0 0"),
            ("below q 1 1", "a 0, a 1, a 2"),
            ("below q 5 1", "b 0 0, b 1 0, b 1 1, b 2 0, b 2 1, b 2 2"), ("at q 4 2", "11/1"),
        )
        text = console.execute("roof q")
        self.assertEqual([line for line in text.split("\n") if line[0] in "fre"][:3],
            ["roof", "from 0 1 0 6", "row a 0"])
        self.told(console, ("judge q : " + text, "yes"), ("judge q : " + text.replace("from 3 2", "from 4 2"), "no"))

    def test_growths(self):
        console = begun(*BEGUN, "come a 2", "come b 2 0", "come b 7 7")
        self.told(console, ("growths q", "a 1 3/8, a 2 3/8, b 1 5 3/8, b 2 0 3/8, b 7 7 0/1"),
            ("keep w : <- a(1) : a 2", "turned w cut orders"),
                  ("growths w", "a 1 1/1, a 2 0/1"))

    def test_answers(self):
        console = begun("table a 2", "table b 1", "come a 1 5", "come a 2 5", "come a 2 6", "come b 5", "come b 6")
        question = "x <- a(x, y), b(y)"
        self.told(
            console, (f"all {question} : a 2, b 3 : 1, 2",
            "cut 5\nrow a 2 6\nrow b 5\nway 2 1 5\nway 1 2 5\nway 2 2 6"),
            (f"all {question} : a 2, b 3 : none", "cut 0"), (f"any {question} : a 2, b 3 : 1, 2", "1 2"),
            (f"any {question} : a 2, b 3 : 2", "2 4"),
            (f"any {question} : a firm, b firm : 1, 2", "none"), ("any y, x <- a(x, y) : a 7 : 5 1, 5 2, 6 2", "5 1 7"),
            ("any y, x <- a(x, y) : a 7 : 5 2, 6 2", "5 2 7"), (f"spared {question} : a 2, b 1 : 1 : none",
            "spared 1\nrow b 5\nset\nway 1 5"),
            (f"spared {question} : a firm, b 1 : 2 : 1", "none\nset\nrow b 5\nstands 5"),
        )
        told = console.execute(f"spared {question} : a 2, b 1 : 1 : 2")
        book = parse_book(console.execute("book"))
        told_so = sparing(book, parse_question(question), {"a": 2, "b": 1}, (1,), ((2,),))
        self.assertEqual(told, format_sets(told_so))
        self.assertEqual(told.split("\n")[:3], ["spared 1", "row b 5", "stay 6"])

    def test_papers(self):
        console = begun(*MOVED)
        for line in ("hold q least", "hold q orders", "hold q roof", "hold q a 1", "hold q a 1 and b 1 6"):
            self.assertEqual(console.execute(line), "ok")
        for number in range(5):
            text = console.execute(f"paper {number}")
            if number in (3, 4):
                first, second = text.split("\nclaim ")
                self.told(console, (f"judge q : {first}", "yes"), (f"judge q : claim {second}", "yes"),
                    (f"judge q : {text}", "no"))
            else:
                self.told(console, (f"judge q : {text}", "yes"))
        self.told(console, ("paper 0", console.execute("cut q")), ("paper 2", console.execute("roof q")))
        self.assertEqual(console.execute("paper 1").split("\n")[:2], ["order", "row a 1"])
        self.assertEqual([line for line in console.execute("paper 3").split("\n") if line[:5] == "claim"],
            ["claim each a 1", "claim some a 1"])

    def test_several_orders_and_a_way_as_a_claim(self):
        console = begun("table a 1", "table b 1", "come a 1", "come b 2", "keep q : <- a(x), b(y) : a 1, b 1",
            "hold q orders")
        text = console.execute("paper 0")
        self.assertEqual(text.count("order"), 2)
        one, other = text.split("\norder")
        self.told(console, (f"judge q : {one}", "yes"), (f"judge q : order{other}", "yes"), (f"judge q : {text}", "no"))
        for line in ("come a 2", "pin a 1", "pin b 2"):
            console.execute(line)
        self.told(console, ("hold q a 2", "ok"), ("paper 1", "stands 1 2"))

    def test_judging(self):
        console = begun(*MOVED)
        roof = console.execute("roof q")
        claim = "claim each a 1\nprice 3\nrow a 1\nway 2 1 5\nway 2 1 6"
        console.execute("hold q orders")
        order = console.execute("paper 0")
        self.told(
            console, ("judge q : " + roof, "yes"), ("judge q : \n\n   " + roof + "\n \n", "yes"),
            ("judge q : " + claim, "yes"),
            ("judge q :   \n claim   each a   1\n" + claim[15:] + "\n", "yes"),
            ("judge q : " + claim + "\nway 1", "no"), ("judge q : " + order, "yes"),
            ("judge q :  \n" + order, "yes"), ("judge q : cut 3\nrow a 1\nway 1 1 5\nway 2 1 6", "yes"),
            ("judge q :  cut 3", "no"), ("judge q : ", "no"),
            ("judge q : claim", "no"), ("judge q : order", "no"), ("judge q : roof", "no"), ("judge q : claims", "no"),
            ("judge q : \n", "no"),
            ("judge q : stands 1 5", "no"), ("judge q : triad a b a\nchain a b\nchain a b\nchain a b", "no"),
            ("still q", "turned q roof"),
            ("judge q : " + roof, "no"), ("judge q : roof\nend", "no"), ("judge q : " + claim, "yes"),
            ("pin a 1", "turned q cut orders, 0 wrong"),
            ("judge q : " + claim, "no"), ("judge q : " + order, "no"),
        )

    def test_a_triad_is_judged(self):
        console = begun("table r 2", "table s 2", "table t 2", "table u 1",
            f"keep q : <- {TRIANGLE}, u(p) : r 1, s 1, t 1, u 1")
        triad = "triad r s t\nchain r s\nchain r t\nchain s t"
        self.told(console, (f"judge q : {triad}", "no"), ("come u 1", "ok"), (f"judge q : {triad}", "no"))

    def test_parting_from_the_left(self):
        console = begun(*BEGUN)
        self.refuse(console, SyntaxProblem, "move q : : a 1 1", "all  : a 1 : 1", line=1, column=1)
        self.refuse(console, NoQuestion, "move q  : a 1 1", "move  q : a 1 1, b 1 1", "move  : a 1 1", "judge q  : x",
            "judge  : roof", "move q q : a 1 0")
        self.refuse(console, NoPrice, "move q : ", "move q : a 1 1", "move q : a 1 1, b 1 1, c 1 1")


class InvalidTest(ConsoleTest):
    def test_lines_that_are_no_commands(self):
        self.refuse(
            begun(*MOVED), InvalidCommand, "", " ", "  ", "x", "tables", "Table c 1", "table", "table c",
            "table c 1 1", "table c x", "table c 01",
            f"table c {BIG + 1}", "come", "come a", "come a x", "go a", "go", "pin", "pin a", "unpin a 1x", "forget",
            "forget q q", "still", "still q q",
            "hold", "hold q", "hold q cut", "hold q claim", "hold q a", "hold q a x", "hold q least 1 x",
            "hold q a 1 and", "hold q a 1 and b",
            "hold q a and b 1", "hold q and", "hold q a 1 and b 1 x", "hold q a 1 and b 1 5 and a 1",
            "hold q least least", "hold q a 01", f"hold q a {BIG + 1}",
            "drop", "drop x", "drop 0 0", "drop -1", "back", "back x", "back 1 1", "cut", "cut q q", "roof",
            "roof q 1", "cuts", "cuts q q", "front", "front q q",
            "at q", "at q 1", "at q 1 2 3", "at q x 1", "at q 1 x", "at q 1 0", "at q 0 0", "at w 1 0", "at q -1 1",
            "at", "below q 1", "below q 1 0",
            "below q 1 01", "below w x 1", f"below q {BIG + 1} 1", "growths", "growths q q", "paper", "paper x",
            "paper 0 0", "book a", "pins a", "notes 1",
            "questions q", "held q", "price q", "blame q a 1", "counts q", "evens q", "shares q",
            "report x <- a(x) : a 1", "told q", "book\n", "\tbook",
        )

    def test_odd_spaces(self):
        self.refuse(
            begun(*MOVED), InvalidCommand, " book", "book ", "held ", "hold q  least", "hold  q least",
            "hold q least ", "hold q a 1  and b 1 5",
            "hold q a  1", "at q 1  2", "at q 1 2 ", " at q 1 2", "paper  0", "paper 0 ", "cuts  q", "roof q ",
            "drop ", "drop  0", "still ", "still  q",
            "come a  2", "pins ", " move q : a 1 1", " judge q : x",
        )

    def test_parts(self):
        self.refuse(
            begun(*BEGUN), InvalidCommand, "move", "move q", "move q: a 1 1", "move q :a 1 1",
            "move q : a 1 1 : b 1 1", "keep w", "keep w : <- a(x)",
            "keep w : <- a(x) : a 1 : b 1", "judge q", "judge q : x : y", "all", "all x <- a(x) : a 1",
            "all x <- a(x) : a 1 : 1 : 2", "any x <- a(x) : a 1",
            "any x <- a(x): a 1 : 1", "any x <- a(x) : a 1 : 1 : ", "spared x <- a(x) : a 1 : 1",
            "spared x <- a(x) : a 1 : 1 : 2 : 3", "spared",
        )

    def test_integers_of_answers(self):
        console = begun(*BEGUN)
        question = "x <- a(x) : a 1"
        for answers in ("x", "01", "1,2", "1 ,2", "1,  2", "1 , 2", "1  2", " 1", "1 ", "1, 2 ", "-1", str(BIG + 1),
                "none, 1", "1, none", "None", "nothing", " none",
                        "none ", "1, x", ", x", " "):
            self.refuse(console, InvalidCommand, f"all {question} : {answers}", f"any {question} : {answers}",
                f"spared {question} : 1 : {answers}")
        for answer in ("x", "01", "none", "1, 2", "1,2", " 1", "1 ", "1  1", str(BIG + 1), " "):
            self.refuse(console, InvalidCommand, f"spared {question} : {answer} : none",
                f"spared {question} : {answer} : 1", f"spared {question} : {answer} : x")

    def test_integers_of_answers_behind_texts_and_ahead_of_functions(self):
        console = begun(*BEGUN)
        for command, end in (("all", "x"), ("any", "x"), ("spared", "x : 1"), ("spared", "1 : x"),
                ("spared", "1 : 1 x")):
            self.refuse(console, SyntaxProblem, f"{command} x <- A(x) : a 0 : {end}", line=1, column=6)
            self.refuse(console, SyntaxProblem, f"{command} x <- a(x) : a 0 : {end}", line=1, column=3)
            self.refuse(console, InvalidCommand, f"{command} x <- z(x) : a 1 : {end}",
                f"{command} <- a(x) : a 1 : {end}", f"{command} x <- a(x) : b 1 : {end}")


class ErrorTest(ConsoleTest):
    def test_what_the_keeper_raises(self):
        console = begun(*MOVED, "hold q least", "pin b 1 5")
        self.refuse(console, NoTable, "table A 1", "table c 7", "come c 1", "go 1 1", "pin c 1", "unpin c 1")
        self.refuse(console, NameTaken, "table a 1", "keep q : <- a(x) : a 1", "move q : a 1 1, b 1 1",
            "move q : zz 1 1")
        self.refuse(console, NoRow, "come a 1 1", "go a 2", "pin b 9 9", "unpin a 1", "hold q a 2", "hold q z 1",
            "hold q a 1 and a 1", "hold q b 1 5",
                    "hold q a 1 and b 1 5", "hold q least 1", "hold q roof 1", "hold q and 1 and and 2", "hold q a 1 1")
        self.refuse(console, RowTaken, "come a 1", "pin b 1 5")
        self.refuse(console, NoQuestion, "forget w", "still w", "move w : a 1 1", "hold w least", "hold w roof",
            "hold w a 1", "cut w", "cuts w", "roof w", "front w",
                    "at w 1 1", "below w 0 1", "growths w", "judge w : roof", "judge w : ", "keep W : <- a(x) : a 1",
                    "keep w : <- a(x, y) : a 1", "cuts Q",
                    "all <- a(x) : a 1 : ", "any <- a(x) : a 1 : none", "spared <- a(x) : a 1 :  : none",
                    "all x <- c(x) : c 1 : none", "any x <- a(x, x) : a 1 : 1")
        self.refuse(console, NoMark, "drop 1", f"drop {BIG}", "paper 1", f"paper {BIG}", "back 10", f"back {BIG}")
        self.refuse(begun(*BEGUN), NoPrice, "still q", "roof q", "front q", "at q 1 1", "below q 1 1", "hold q roof",
            "keep w : <- a(x) : ", "move q : a 1 1",
                    "any x <- a(x) : b 1 : 1", "all x <- a(x) : b 1 : 1", "spared x <- a(x) : b 1 : 1 : none")

    def test_answers_that_are_none(self):
        console = begun(*BEGUN, "come a 2")
        question = "x <- a(x) : a 1"
        self.refuse(console, NoAnswer, f"all {question} : 3", f"all {question} : 2, 1", f"any {question} : 1, 1",
            f"any {question} : 1 2", f"any {question} : ",
                    f"all {question} : 1, ", f"spared {question} : 3 : none", f"spared {question} : 1 : 3",
                    f"spared {question} :  : 1", f"spared {question} : 1 : ")

    def test_texts_go_ahead_of_the_keeper(self):
        console = begun(*MOVED)
        self.refuse(console, SyntaxProblem, "move q : a 0 0", "move W : a 0 0", line=1, column=5)
        self.refuse(console, SyntaxProblem, "keep q : <- A(x) : a 0", line=1, column=4)
        self.refuse(console, SyntaxProblem, "keep q : <- a(x) : a 0", line=1, column=3)

    def test_what_the_functions_raise(self):
        lines = ("table r 2", "table s 2", "table t 2", "table u 1", "come u 1", "come r 1 1", "come s 1 1",
            "come t 1 1")
        console = begun(*lines, f"keep w : <- {TRIANGLE}, u(p) : r 1, s 1, t 1, u 1")
        self.refuse(console, NoLine, f"keep q : <- {TRIANGLE} : r 1, s 1, t 1", "pin u 1", "pin s 1 1",
            "move w : r 1 2, s 1 1, t 1 1, u 2 1",
                    f"all v <- {TRIANGLE}, u(v) : r 1, s 1, t 1, u 1 : 1",
                    f"any v <- {TRIANGLE}, u(v) : r 1, s 1, t 1, u 1 : 1",
                    f"spared v <- {TRIANGLE}, u(v) : r 1, s 1, t 1, u 1 : 1 : none",
                    f"keep v : <- {TRIANGLE} : r 2, s 2, t 2")
        self.refuse(console, NotNested, "growths w", paper=("p", "q", ("r", "t", "s")))
        self.told(console, ("move w : r 1 2, s 1 1, t 1 1, u 1 1", "turned w roof"))
        self.refuse(console, NoLine, "pin r 1 1")

    def test_limits(self):
        console = begun("table a 1", "table b 1", *[f"come {table} {k}" for table in "ab" for k in range(8)],
            "keep q : <- a(x), b(x) : a 1, b 1")
        self.told(console, ("come b 8", "ok"), ("pin b 8", "turned q orders"))
        self.refuse(console, TooMany, "cuts q", "hold q orders", limit=200)
        for _ in range(30):
            console.execute("hold q least")
        self.refuse(console, TooMany, "hold q least", "hold q orders", "hold q a 1", limit=30)
        self.refuse(console, NoRow, "hold q a 8")
        for k in range(9, 60):
            console.execute(f"come b {k}")
        self.refuse(console, TooMany, "growths q", limit=40)
        for k in range(8, 60):
            console.execute(f"come a {k}")
        self.refuse(console, TooMany, "all x, y <- a(x), b(y) : a 1, b 1 : none",
            "any x, y <- a(x), b(y) : a 1, b 1 : 1 1", limit=2000)

    def test_errors_change_nothing(self):
        console, other = begun(*MOVED), begun(*MOVED)
        for line in ("come a 1", "keep q : <- a(x) : a 1", "back 9", "x", "hold q zz 1", "pin a 2", "move q : a 1 1",
                "drop 3", "move w : "):
            self.assertIsNotNone(raised(console.execute, line))
        for line in ("hold q least", "come b 2 2", "go a 1", "back 5", "keep w : <- b(x, y) : b firm", "cut w",
                "notes", "book", "held", "questions"):
            self.assertEqual(console.execute(line), other.execute(line))


class WholeTest(unittest.TestCase):
    """Long histories by way of both consoles, compared with the keeper and the functions."""

    def answer(self, told):
        turned, judged = told
        parts = [" ".join([name, *words]) for name, words in turned]
        parts += [f"{number} {'right' if right else 'wrong'}" for number, right in judged]
        return "turned " + ", ".join(parts) if parts else "ok"

    def pair(self, pair):
        return " ".join([pair[0], *map(str, pair[1])])

    def listed(self, texts):
        return ", ".join(texts) or "nothing"

    def some_deed(self, source, keeper):
        """A line and the keeper's method with its arguments."""
        word = source.choice(("come",) * 9 + ("go",) * 5 + ("pin", "unpin", "keep", "keep", "forget", "move", "move",
            "still", "hold", "hold", "hold", "drop"))
        table, name = source.choice("abcde"), source.choice(sorted(QUESTIONS))
        row = tuple(source.randrange(2) for _ in range(WIDTHS[table]))
        if word in ("go", "pin", "unpin"):
            known = [(table, row) for table, (_, rows) in keeper.book_now().items() for row in rows]
            table, row = source.choice(keeper.pinned() if word == "unpin" and keeper.pinned() else known or [(table,
                row)])
        if word in ("come", "go", "pin", "unpin"):
            return f"{word} {self.pair((table, row))}", word, (table, row)
        question = QUESTIONS[name]
        if word == "keep":
            prices = references.some_prices(source, question)
            return f"keep {name} : {format_question(question)} : {format_prices(prices)}", word, (name, question,
                prices)
        if word == "move":
            pairs = {table: source.choice((None, (1, 0), (0, 1), (2, 1), (1, 2))) for table, _ in question[1]}
            return f"move {name} : {format_moving(pairs)}", word, (name, pairs)
        if word == "drop":
            number = source.choice([each[0] for each in keeper.certificates()] + [50])
            return f"drop {number}", word, (number,)
        if word in ("still", "forget"):
            return f"{word} {name}", word, (name,)
        what = source.choice(("least", "orders", "roof", 1, 2))
        if isinstance(what, str):
            return f"hold {name} {what}", word, (name, what)
        pairs = tuple((table, row) for table,
            _ in question[1] if table in keeper.book_now() for row in keeper.book_now()[table][1])
        what = tuple(source.choice(pairs or (("a", (0,)),)) for _ in range(what))
        return f"hold {name} {' and '.join(map(self.pair, what))}", word, (name, what)

    def test_long_histories(self):
        kinds = set()
        for number in range(16):
            source = references.source_of(7000 + number)
            console, keeper = KeeperConsole(), Keeper()
            for table, width in WIDTHS.items():
                console.execute(f"table {table} {width}")
                keeper.set_table(table, width)
            for name in "psq"[:source.randint(0, 3)]:
                prices = {table: source.randint(1, 2) for table, _ in QUESTIONS[name][1]}
                console.execute(f"keep {name} : {format_question(QUESTIONS[name])} : {format_prices(prices)}")
                keeper.keep(name, QUESTIONS[name], prices)
            for _ in range(60):
                if source.random() < 0.03:
                    mark = source.randint(len(keeper.notes()) // 2, len(keeper.notes()))
                    self.assertEqual(console.execute(f"back {mark}"), "ok")
                    keeper.back(mark)
                line, word, arguments = self.some_deed(source, keeper)
                expected = result(getattr(keeper, word), *arguments)
                told = result(console.execute, line)
                if expected[0] == "returned":
                    expected = "returned", self.answer(expected[1])
                self.assertEqual(told, expected, line)
                kinds.add((word, expected[0]))
                self.compare(source, console, keeper)
        words = {word for word, told in kinds if told == "returned"}
        self.assertEqual(words, {"come", "go", "pin", "unpin", "keep", "forget", "move", "still", "hold", "drop"})

    def compare(self, source, console, keeper):
        self.assertEqual(console.execute("book"), format_book(keeper.book_now()))
        self.assertEqual(console.execute("pins"), self.listed([self.pair(pair) for pair in keeper.pinned()]))
        self.assertEqual(console.execute("notes"), str(len(keeper.notes())))
        held = [f"{number} {name} {'right' if right else 'wrong'}" for number, name, _, _,
            right in keeper.certificates()]
        self.assertEqual(console.execute("held"), self.listed(held))
        lines = []
        for name, question, prices, moving in keeper.questions():
            lines.append(f"{name} : {format_question(question)} : {format_prices(prices)}")
            lines[-1] += "" if moving is None else f" : {format_moving(moving)}"
            self.question(source, console, keeper, name, question, prices, moving)
        self.assertEqual(console.execute("questions"), "\n".join(lines) or "nothing")
        for number, _, what, paper, _ in source.sample(keeper.certificates(), min(2, len(keeper.certificates()))):
            if what == "orders":
                text = "\n".join([format_order(each) for each in paper]) or "none"
            elif what == "roof":
                text = format_roof(paper)
            elif what == "least" or paper[0] == "stands":
                text = format_paper(paper)
            else:
                text = "\n".join([format_claim(*each) for each in paper])
            self.assertEqual(console.execute(f"paper {number}"), text)

    def question(self, source, console, keeper, name, question, prices, moving):
        told = keeper.told(name)
        self.assertEqual(console.execute(f"cut {name}"), format_paper(told))
        self.assertEqual(console.execute(f"judge {name} : {console.execute(f'cut {name}')}"), "yes")
        found = keeper.orders_of(name)
        if told[0] == "stands":
            expected = "none"
        elif told[1] == 0:
            expected = "nothing"
        else:
            expected = "\n".join([", ".join([self.pair(pair) for pair in cut]) for order in found for cut in order.cuts()])
        self.assertEqual(console.execute(f"cuts {name}"), expected)
        if references.crossing(question) is None:
            halves = {table: {row: (1, 2) for row in keeper.book_now()[table][1]} for table,
                _ in question[1] if prices[table]}
            told = [f"{self.pair((table, row))} {over}/{under}" for table, row,
                (over, under) in growths(keeper.book_now(), question, halves)]
            self.assertEqual(console.execute(f"growths {name}"), self.listed(told))
        if moving is not None:
            self.roof(source, console, keeper, name, moving)

    def roof(self, source, console, keeper, name, moving):
        told = keeper.roof_of(name)
        self.assertEqual(console.execute(f"roof {name}"), format_roof(told))
        if told[0] == "stands":
            # By its first word this text is judged by the prices, not by the moving prices.
            right = references.judge_least(*keeper.asked(name)[:4], told)
            self.assertEqual(console.execute(f"judge {name} : {format_roof(told)}"), "yes" if right else "no")
            self.assertEqual([console.execute(line) for line in (f"front {name}", f"at {name} 1 2",
                f"below {name} 1 2")], ["none"] * 3)
            return
        self.assertEqual(console.execute(f"judge {name} : {format_roof(told)}"), "yes")
        self.assertEqual(console.execute(f"front {name}"), ", ".join([f"{a} {b}" for _, a, b, _ in told[1]]))
        over, under = source.randint(0, 4), source.randint(1, 3)
        stretch = [each for each in told[1] if each[0][0] * under <= over * each[0][1]][-1]
        price = surveys.plain(surveys.Fraction(stretch[1] * under + stretch[2] * over, under))
        self.assertEqual(console.execute(f"at {name} {over} {under}"), "{}/{}".format(*price))
        self.assertEqual(console.execute(f"below {name} {over} {under}"),
            self.listed([self.pair(pair) for pair in stretch[3]]))

    def test_main_promise(self):
        """Over histories: each kept question's cut, orders and roof are told with what the judges take, by the texts alone."""
        for number in range(60):
            source = references.source_of(8000 + number)
            question = references.some_question(source, 4)
            book = references.some_book(source, question, 4, 2)
            prices, moving = references.some_prices(source, question), surveys.some_moving(source, question)
            console, other = KeeperConsole(), Console()
            lines = [f"table {table} {width}" for table, (width, _) in book.items()]
            lines += [f"come {self.pair((table, row))}" for table, (_, rows) in book.items() for row in rows]
            lines.append(f"keep q : {format_question(question)} : {format_prices(prices)}")
            errors = [raised(each.execute, line) for line in lines for each in (console, other)]
            if any(errors):
                self.assertEqual(errors[-1], errors[-2])
                self.assertIs(errors[-1][0], NoLine)
                continue
            for pair in references.loose_pairs(book, question, prices):
                if source.random() < 0.1:
                    line = f"pin {self.pair(pair)}"
                    self.assertEqual(raised(console.execute, line), raised(other.execute, line))
            self.shown(console, other, book, question, prices, moving)

    def shown(self, console, other, book, question, prices, moving):
        pins = [tuple(text.split(" ")) for text in console.execute("pins").split(", ") if text != "nothing"]
        pinned = tuple((table, tuple(map(int, row))) for table, *row in pins) or None
        case = book, question, prices, pinned
        told = parse_paper(console.execute("cut q"))
        self.assertEqual(console.execute("cut q"), other.execute("cut q"))
        self.assertIs(shows_least(*case, told), True)
        price, cuts = surveys.all_least(*case)
        self.assertEqual(told[1] if told[0] == "cut" else None, price)
        lines = console.execute("cuts q").split("\n")
        rows = [", ".join([self.pair(pair) for pair in cut]) or "nothing" for cut in cuts] if price is not None else ["none"]
        self.assertEqual(sorted(lines), sorted(rows))
        console.execute("hold q orders")
        text = console.execute("paper 0")
        keeper = console._keeper
        for thing in keeper.certificates()[0][3]:
            self.assertIs(shows_order(*case, thing), True)
            self.assertEqual(len(Order(*thing[:2])), len(Order(*thing[:2]).cuts()))
        self.assertEqual(text == "none", not price)
        if raised(console.execute, f"move q : {format_moving(moving)}") is None:
            case = book, question, moving, keeper.asked("q")[5]
            self.assertIs(shows_roof(*case, keeper.roof_of("q")), True)

    def test_several_answers(self):
        for number in range(60):
            source = references.source_of(9000 + number)
            _, atoms = references.some_question(source, 3)
            names = references.names_of(((), atoms))
            question = tuple(source.sample(names, min(len(names), source.randint(1, 2)))), atoms
            book = references.some_book(source, question, 4, 2)
            prices = references.some_prices(source, question)
            console = begun(*[f"table {table} {width}" for table, (width, _) in book.items()],
                            *[f"come {self.pair((table, row))}" for table, (_, rows) in book.items() for row in rows])
            found = references.answers(book, question) if names else []
            some = tuple(sorted(source.sample(found, source.randint(0, len(found)))))
            texts = ", ".join([" ".join(map(str, answer)) for answer in some]) or "none"
            start = f"{format_question(question)} : {format_prices(prices)}"
            self.same(console, f"all {start} : {texts}", lambda: format_paper(all_gone(book, question, prices, some)))
            self.same(console, f"any {start} : {texts}", lambda: self.any_text(any_gone(book, question, prices, some)))
            for going in found[:2]:
                line = f"spared {start} : {' '.join(map(str, going))} : {texts}"
                self.same(console, line, lambda: format_sets(sparing(book, question, prices, going, some)))

    def any_text(self, told):
        answer, papers = told
        if answer is None:
            return "none"
        return " ".join(map(str, answer + (dict(papers)[answer][1],)))

    def same(self, console, line, function):
        self.assertEqual(result(console.execute, line), result(function), line)

    def test_the_texts_of_the_consoles(self):
        # What one console tells, the other one reads.
        self.assertEqual(parse_prices("a 3, b 2"), {"a": 3, "b": 2})
        console, other = begun(*BEGUN), Console()
        for line in BEGUN:
            other.execute(line)
        for line in ("book", "pins", "notes", "cut q", "questions"):
            self.assertEqual(console.execute(line), other.execute(line))
        for text in (console.execute("cut q"), "stands 1 5", "x"):
            self.assertEqual(console.execute(f"judge q : {text}"), other.execute(f"judge q : {text}"))


if __name__ == "__main__":
    unittest.main()
