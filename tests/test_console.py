import unittest
from math import comb

import references
from answercut import console as module
from answercut.blame import blame
from answercut.console import Console
from answercut.errors import (
    InvalidCommand, NameTaken, NoLine, NoMark, NoPrice, NoQuestion, NoRow, NotNested, NoTable, RowTaken, SyntaxProblem,
    TooMany,
)
from answercut.nets import least_cut
from answercut.texts import format_book, format_paper, format_prices, format_question, judges
from answercut.watches import Watch
from helpers import raised

BIG = 10 ** 30
BEGUN = (
    "table a 1", "table b 2", "come a 1", "come b 1 5", "come b 1 6", "keep q : <- a(x), b(x, y) : a 3, b 1",
)


def begun(*more):
    console = Console()
    for line in BEGUN + more:
        console.execute(line)
    return console


def all_of(console):
    lines = ("book", "pins", "notes", "questions")
    names = [line.split(" ")[0] for line in console.execute("questions").split("\n") if line != "nothing"]
    return [console.execute(line) for line in lines + tuple(f"cut {name}" for name in names)]


class ConsoleTest(unittest.TestCase):
    def told(self, console, *pairs):
        for line, answer in pairs:
            self.assertEqual(console.execute(line), answer, line)

    def refuse(self, console, kind, *lines, **fields):
        before = all_of(console)
        for line in lines:
            error = raised(console.execute, line)
            self.assertIsNotNone(error, line)
            self.assertIs(error[0], kind, line)
            if fields:
                self.assertEqual(error[1], fields, line)
            self.assertEqual(all_of(console), before, line)


class AnswerTest(ConsoleTest):
    def test_class_is_defined_in_this_file(self):
        self.assertEqual(Console.__module__, module.__name__)
        self.assertIn("execute", vars(Console))

    def test_example(self):
        console = Console()
        self.assertEqual([console.execute(line) for line in BEGUN], ["ok", "ok", "ok", "ok", "ok", "turned q"])
        self.told(console, ("price q", "2"), ("blame q b 1 5", "1, b 1 6"), ("counts q", "0 0 2 1"),
                  ("shares q", "a 1 2/3, b 1 5 1/6, b 1 6 1/6"), ("report x <- b(x, y) : b 2", "1 4"), ("notes", "6"))

    def test_nothing(self):
        self.told(Console(), ("book", ""), ("pins", "nothing"), ("notes", "0"), ("questions", "nothing"), ("back 0", "ok"))
        console = Console()
        self.told(console, ("table a 1", "ok"), ("keep q : <- a(x) : a 1", "turned q"), ("shares q", "nothing"),
                  ("counts q", "0"), ("evens q", "0/1"), ("price q", "0"), ("cut q", "cut 0"),
                  ("report <- a(x) : a 1", "nothing"), ("report x <- a(x) : ", "nothing"), ("pins", "nothing"),
                  ("report x <- a(x) : zz 5, a firm", "nothing"))

    def test_deeds(self):
        console = begun()
        self.told(
            console, ("come b 2 5", "ok"), ("keep w : <- b(y, x) : b 4", "turned w"), ("come b 1 7", "turned q w"),
            ("pin b 1 5", "turned w"), ("pins", "b 1 5"), ("pin a 1", "turned q"), ("pins", "a 1, b 1 5"), ("price q", "none"),
            ("cut q", "stands 1 5"), ("unpin a 1", "turned q"), ("go b 1 5", "turned q w"), ("pins", "nothing"),
            ("forget q", "turned q"), ("table c 6", "ok"), ("come c 0 1 2 3 4 5", "ok"), ("notes", "16"), ("back 6", "ok"),
            ("notes", "6"), ("book", "table a 1\nrow a 1\ntable b 2\nrow b 1 5\nrow b 1 6"),
            ("questions", "q : <- a(x), b(x, y) : a 3, b 1"), (f"come a {BIG}", "ok"), ("back 0", "ok"), ("book", ""),
        )

    def test_what_is_told_of_a_question(self):
        console = begun("table c 1", "come c 1", "keep w : <- c(1), a(x) : c firm, a firm", "keep v : <- c(x), a(x) : a 2, c 2")
        self.told(
            console, ("price q", "2"), ("cut q", "cut 2\nrow b 1 5\nrow b 1 6\nway 1 1 5\nway 1 1 6"),
            ("price w", "none"), ("cut w", "stands 1"), ("counts w", "1"), ("evens w", "1/1"), ("shares w", "nothing"),
            ("price v", "2"), ("cut v", "cut 2\nrow c 1\nway 2 1"), ("counts v", "0 0 1"), ("evens v", "1/4"),
            ("shares v", "a 1 1/2, c 1 1/2"), ("evens q", "3/8"), ("blame q a 1", "0"), ("blame v a 1", "0"),
            ("come b 3 3", "ok"), ("blame q b 3 3", "none"), ("shares q", "a 1 2/3, b 1 5 1/6, b 1 6 1/6, b 3 3 0/1"),
            ("questions", "q : <- a(x), b(x, y) : a 3, b 1\nw : <- c(1), a(x) : c firm, a firm\nv : <- c(x), a(x) : a 2, c 2"),
        )

    def test_reports(self):
        console = begun("come a 2", "come b 2 0")
        self.told(
            console, ("report x, y <- b(x, y) : b 2", "1 5 2, 1 6 2, 2 0 2"),
            ("report y <- a(x), b(x, y) : a firm, b firm", "0 none, 5 none, 6 none"),
            ("report <- a(x), b(x, y) : a 1, b 5", "2"), ("report <- a(x) : a firm", "none"),
            ("report x<-b(x,y)  :   b 9", "1 18, 2 9"),
        )

    def test_judging(self):
        console = begun()
        self.told(
            console, ("judge q : cut 2\nrow b 1 5\nrow b 1 6\nway 1 1 5\nway 1 1 6", "yes"), ("judge q : stands 1 5", "no"),
            ("judge q : cut 3\nrow a 1\nway 1 1 5\nway 1 1 6", "no"), ("judge q : cut 3", "no"), ("judge q : ", "no"),
            ("judge q : x", "no"), ("judge q :  \n cut  2\n\nrow b 1 5\n row b 1 6 \nway 1 1 5\nway 1 1 6\n", "yes"),
            ("pin a 1", "ok"), ("pin b 1 6", "turned q"), ("judge q : stands 1 5", "no"), ("judge q : stands 1 6", "yes"),
            ("judge q : cut 2\nrow b 1 5\nrow b 1 6\nway 1 1 5\nway 1 1 6", "no"), ("judge q : stands 1 5:", "no"),
        )

    def test_books_of_many_lines(self):
        for number in range(60):
            source = references.source_of(number)
            question = references.some_question(source, 3)
            book = references.some_book(source, question, 4, 2)
            prices = references.some_prices(source, question)
            if raised(least_cut, book, question, prices, ()) is None:
                self.agrees(source, book, question, prices)

    def agrees(self, source, book, question, prices):
        console, watch = Console(), Watch()
        for table, (width, rows) in book.items():
            self.assertEqual(console.execute(f"table {table} {width}"), "ok")
            watch.set_table(table, width)
            for row in rows:
                console.execute(" ".join(map(str, ("come", table) + row)))
                watch.come(table, row)
        self.assertEqual(console.execute(f"keep q : {format_question(question)} : {format_prices(prices)}"), "turned q")
        watch.keep("q", question, prices)
        for table, row in references.loose_pairs(book, question, prices):
            if source.random() < 0.2:
                turned = watch.pin(table, row)
                told = console.execute(" ".join(map(str, ("pin", table) + row)))
                self.assertEqual(told, "turned q" if turned else "ok")
            found = blame(book, question, prices, (table, row))
            told = console.execute(" ".join(map(str, ("blame", "q", table) + row)))
            rows = [f"{table} {' '.join(map(str, row))}" for table, row in found[2]] if found[0] == "blame" else []
            self.assertEqual(told, ", ".join([str(found[1])] + rows) if found[0] == "blame" else "none")
        text = console.execute("cut q")
        self.assertEqual(text, format_paper(watch.told("q")))
        self.assertEqual(console.execute(f"judge q : {text}"), "yes")
        self.assertEqual(console.execute("book"), format_book(book))
        if references.crossing(question) is None:
            loose = references.loose_tables(question, prices)
            counts = references.counts(book, question, loose)
            self.assertEqual(console.execute("counts q"), " ".join(map(str, counts)))
            over, under = references.chance(
                book, question, {table: {row: (1, 2) for row in book[table][1]} for table in loose})
            self.assertEqual(console.execute("evens q"), f"{over}/{under}")
        self.assertIs(judges(book, question, prices, watch.asked("q")[3], text), True)


class InvalidTest(ConsoleTest):
    def test_lines_that_are_no_commands(self):
        self.refuse(
            begun(), InvalidCommand, "", " ", "  ", "tables", "Table c 1", "x q", "table", "table c", "table c 1 1", "table c x",
            "table c -1", "table c 01", f"table c {BIG + 1}", "table c " + "1" * 5000, "come", "come a", "come a x", "come a 2 x",
            "come a 02", "go", "go a", "pin", "pin a", "unpin a", "unpin", "go a +1", "pin a 1x", "unpin b 1 5x", "forget",
            "forget q q", "back", "back x", "back -1", "back 1 1", "price", "price q q", "cut", "cut q 1", "blame", "blame q",
            "blame q a", "blame q a x", "blame q 1", "counts", "counts q q", "evens", "shares", "evens q 1", "shares q q",
            "book a", "pins a", "notes 1", "questions q", "nothing", "ok", "book\n", "\tbook", "judge", "keep", "report",
            "cuts q", "held", "told q", "weakest x <- a(x) : a 1", "wish q", "move q : a 3 0",
        )

    def test_odd_spaces(self):
        self.refuse(
            begun(), InvalidCommand, " book", "book ", "table  c 1", "table c  1", " table c 1", "table c 1 ", "come a  2",
            "come  a 2", "price  q", "price q ", " price q", "blame q b  1 5", "back 1 ", "back  1", "forget ", "price ", "cut ",
            "pins ", "come a 2 ", "come a ", " keep q : <- a(x) : a 1", " judge q : x",
        )

    def test_parts(self):
        self.refuse(
            begun(), InvalidCommand, "keep w", "keep w : <- a(x)", "keep w : <- a(x) : a 1 : b 1", "keep w: <- a(x) : a 1",
            "keep w : <- a(x): a 1", "keep w :<- a(x) : a 1", "keep w : <- a(x) :", "keep : <- a(x) : a 1", "keep ", "report ",
            "report x <- b(x, y)", "report x <- b(x, y): b 1", "report x <- b(x, y) : b 1 : b 1", "report : b 1",
            "judge q", "judge ", "judge q :", "judge q: cut 1", "judge q : cut 1 : x", "judge q : stands 1 : ", "judge :  cut 1",
        )

    def test_parting_from_the_left(self):
        # Behind a " : " the next one begins anew: its space is taken.
        self.refuse(begun(), SyntaxProblem, "keep w : : <- a(x) : a 1", line=1, column=1)
        self.refuse(begun(), NoQuestion, "judge  : cut 1", "judge q  : cut 1", "judge  q : cut 1", "judge q q : x",
                    "keep  w : <- a(x) : a 1", "keep w  : <- a(x) : a 1", "keep  : <- a(x) : a 1", "keep w: : <- a(x) : a 1")


class ErrorTest(ConsoleTest):
    def test_what_the_watch_raises(self):
        console = begun("pin b 1 5")
        self.refuse(console, NoTable, "table A 1", "table c 7", f"table c {BIG}", "table c 0", "come c 1", "go 1 1", "pin A 1",
                    "unpin c 1", "table a\n 1")
        self.refuse(console, NameTaken, "table a 1", "table b 6", "keep q : <- a(x) : a 1")
        self.refuse(console, NoRow, "come a 1 1", "go a 2", "go b 1", "pin a 7", "unpin a 1", "come b 1", "unpin b 1 6",
                    "come a 1 2 3 4 5 6 7")
        self.refuse(console, RowTaken, "come a 1", "pin b 1 5")
        self.refuse(console, NoQuestion, "forget w", "price w", "cut w", "blame w a 1", "counts w", "evens w", "shares w",
                    "price Q", "judge w : cut 0", "judge w : ", "keep w : <- c(x) : c 1", "keep w : <- a(x, y) : a 1",
                    "keep w : x <- a(x) : a 1", "keep W : <- a(x) : a 1", "keep a b : <- a(x) : a 1", "report <- c(x) : c 1",
                    "report x <- a(x, x) : a 1")
        self.refuse(console, NoPrice, "keep w : <- a(x) : ", "keep w : <- a(x) : b 1", "keep w : <- a(x) : a 1, b 1",
                    "report x <- a(x) : ", "report x <- a(x) : b 1")
        self.refuse(console, NoMark, "back 8", f"back {BIG}")
        self.refuse(console, NoRow, "blame q c 1", "blame q a 2", "blame q b 1", "blame q b 1 7", "blame q a 1 2 3 4 5 6 7")

    def test_texts_go_ahead_of_the_watch(self):
        console = begun()
        self.refuse(console, SyntaxProblem, "keep q : <- A(x) : a 0", "keep W : <- A(x) : a 1", line=1, column=4)
        self.refuse(console, SyntaxProblem, "keep q : <- a(x) : a 0", "keep W : x <- a(x) : a 0", line=1, column=3)
        self.refuse(console, SyntaxProblem, "report x <- A(x) : a 0", line=1, column=6)
        self.refuse(console, SyntaxProblem, "report x <- c(x) : a 0", line=1, column=3)
        self.refuse(console, SyntaxProblem, "report x <- a(y) : a 0", line=1, column=1)
        self.refuse(console, SyntaxProblem, "report  : a 1", line=1, column=1)
        self.refuse(console, SyntaxProblem, "keep w : <- a(x) : firm", line=1, column=5)

    def test_what_the_functions_raise(self):
        console = Console()
        for line in ("table r 2", "table s 2", "table t 2", "table u 1", "come u 1", "come r 1 1", "come s 1 1", "come t 1 1"):
            console.execute(line)
        triangle = "r(p, q), s(q, w), t(w, p)"
        self.refuse(console, NoLine, f"keep w : <- {triangle} : r 1, s 1, t 1", f"report <- {triangle} : r 1, s 1, t 1")
        self.assertEqual(console.execute(f"keep w : <- {triangle}, u(p) : r 1, s 1, t 1, u 1"), "turned w")
        self.refuse(console, NoLine, "pin u 1", "pin s 1 1", "blame w u 1")
        self.refuse(console, NotNested, "counts w", "evens w", "shares w", paper=("p", "q", ("r", "t", "s")))
        self.assertEqual(console.execute("judge w : cut 1\nrow u 1\nway 1 1 1 1"), "yes")

    def test_limits(self):
        console = Console()
        for table in "abcdefgh":
            console.execute(f"table {table} 1")
        self.refuse(console, TooMany, "table i 1", limit=8)
        for k in range(60):
            console.execute(f"come a {k}")
            console.execute(f"come b {k}")
        self.refuse(console, TooMany, "come a 60", limit=60)
        self.refuse(console, TooMany, "report x <- a(x), b(y) : a 1, b 1", limit=2000)
        self.refuse(console, TooMany, "report x <- a(x), b(y) : ", limit=2000)
        console.execute("keep q : <- a(x), b(y) : a 1, b 1")
        self.refuse(console, TooMany, "counts q", "evens q", "shares q", limit=40)
        for k in range(7):
            console.execute(f"keep q{k} : <- c(x) : c 1")
        self.refuse(console, TooMany, "keep w : <- c(x) : c 1", limit=8)
        for k in range(20, 60):
            console.execute(f"go a {k}")
            console.execute(f"go b {k}")
        self.assertEqual(console.execute("price q"), "20")
        told = console.execute("counts q").split(" ")
        self.assertEqual(told[2], "400")
        self.assertEqual(told[21], str(comb(40, 21)))

    def test_errors_change_nothing(self):
        console, other = begun(), begun()
        for line in ("come a 1", "keep q : <- a(x) : a 1", "back 9", "x", "price w", "pin a 2", "keep w : <- a(x) : "):
            self.assertIsNotNone(raised(console.execute, line))
        for line in ("come b 2 2", "back 5", "keep q : <- b(x, y) : b firm", "cut q", "notes", "book"):
            self.assertEqual(console.execute(line), other.execute(line))


if __name__ == "__main__":
    unittest.main()
