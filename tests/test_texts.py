import copy
import unittest

import references
from answercut import texts
from answercut.errors import NoLine, NoPrice, NoQuestion, NoRow, SyntaxProblem, TooMany
from answercut.lines import triad_of
from answercut.nets import least_cut, shows_least
from answercut.texts import (
    format_book, format_paper, format_prices, format_question, judges, parse_book, parse_paper, parse_prices, parse_question,
)
from helpers import keeps_arguments, raised
from oddities import ANY_OBJECTS

BIG = 10 ** 30
FORTY = 10 ** 40 - 1
TRIANGLE = ((), (("r", ("p", "q")), ("s", ("q", "w")), ("t", ("w", "p"))))
BOOK = {"a": (1, ((1,), (2,))), "b": (2, ((1, 5),))}
QUESTION = ((), (("a", ("x",)), ("b", ("x", 5))))


class TextTest(unittest.TestCase):
    def wrong(self, parse, text, line, column):
        with self.subTest(text):
            self.assertEqual(raised(parse, text), (SyntaxProblem, {"line": line, "column": column}))


class InterfaceTest(unittest.TestCase):
    def test_functions_are_defined_in_this_file(self):
        listed = (
            parse_book, parse_question, parse_prices, parse_paper, format_book, format_question, format_prices, format_paper,
            judges,
        )
        self.assertEqual({each.__module__ for each in listed}, {texts.__name__})

    def test_example(self):
        book = parse_book("table a 1\nrow a 2\nrow a 1\n\ntable b 2\nrow b 1 5")
        question, prices = parse_question("<-a(x),b(x , 5)"), parse_prices("a 2, b firm")
        text = format_paper(("cut", 2, (("a", (1,)),), (((1,), 2),)))
        self.assertEqual(book, {"a": (1, ((1,), (2,))), "b": (2, ((1, 5),))})
        self.assertEqual(format_question(question), "<- a(x), b(x, 5)")
        self.assertEqual(prices, {"a": 2, "b": None})
        self.assertEqual(text, "cut 2\nrow a 1\nway 2 1")
        self.assertIs(judges(book, question, prices, None, text), True)
        self.assertIs(judges(book, question, prices, None, "stands 1"), False)


class BookTest(TextTest):
    def test_right_texts(self):
        for text, book in (
            ("", {}), ("\n\n", {}), ("   \n  ", {}), ("table a 1", {"a": (1, ())}), ("\n  table   a  6  \n\n", {"a": (6, ())}),
            ("table b 2\nrow b 1 0\ntable a 1\nrow b 0 7", {"b": (2, ((0, 7), (1, 0))), "a": (1, ())}),
            (f"table a 1\nrow a {BIG}\n  row  a   0", {"a": (1, ((0,), (BIG,)))}),
            ("table abcdefgh 1\ntable table 1\nrow table 1\ntable row 1\nrow row 2",
             {"abcdefgh": (1, ()), "table": (1, ((1,),)), "row": (1, ((2,),))}),
        ):
            self.assertEqual(parse_book(text), book)
            self.assertEqual(list(parse_book(text)), list(book))
            self.assertEqual(parse_book(format_book(book)), book)

    def test_canonical_texts(self):
        self.assertEqual(format_book({}), "")
        book = {"b": (2, ((0, 7), (1, 0))), "c": (3, ()), "a": (1, ((BIG,),))}
        self.assertEqual(format_book(book), f"table b 2\nrow b 0 7\nrow b 1 0\ntable c 3\ntable a 1\nrow a {BIG}")
        for number in range(200):
            source = references.source_of(number)
            book = references.some_book(source, references.some_question(source, 6), 8, 30)
            self.assertEqual(parse_book(format_book(book)), book)
            lines = format_book(book).split("\n")
            tables = [line for line in lines if line.startswith("table")]
            rows = [line for line in lines if line.startswith("row")]
            source.shuffle(rows)
            mixed = "\n".join(" " * source.randint(0, 2) + line.replace(" ", " " * source.randint(1, 3)) + " "
                              for line in tables + [""] + rows)
            self.assertEqual(parse_book(mixed), book)

    def test_first_words(self):
        for text, line, column in (
            ("tabl a 1", 1, 1), ("  Row a 1", 1, 3), ("table a 1\n\n   a 1", 3, 4), ("\ttable a 1", 1, 1), ("1", 1, 1),
            ("table a 1\ncut 5", 2, 1), ("table\ta 1", 1, 1), ("table a 1\n\rrow a 1", 2, 1),
        ):
            self.wrong(parse_book, text, line, column)

    def test_tables(self):
        eight = "\n".join(f"table t{k} 1" for k in range(8))
        self.assertEqual(len(parse_book(eight)), 8)
        for text, line, column in (
            ("table", 1, 6), ("table  ", 1, 8), ("table A 1", 1, 7), ("table abcdefghi 1", 1, 7), ("table 1a 1", 1, 7),
            ("table a", 1, 8), ("table a  ", 1, 10), ("table a 0", 1, 9), ("table a 7", 1, 9), ("table a 01", 1, 9),
            ("table a x", 1, 9), ("table a +1", 1, 9), ("table a 1 1", 1, 11), ("table a 1  b", 1, 12),
            ("table a 1\ntable  a 2", 2, 8), ("table b 1\n\n\ntable a_ 1", 4, 7), ("table a 1\ntable b", 2, 8),
            ("table a 1 \ntable a", 2, 7), ("table a \u0661", 1, 9), ("table \u00e4 1", 1, 7),
            (eight + "\n table t8 1", 9, 2), (eight + "\ntable", 9, 1), (eight + "\ntable t1 1", 9, 1),
        ):
            self.wrong(parse_book, text, line, column)

    def test_rows(self):
        sixty = "table b 1\ntable a 1\n" + "\n".join(f"row a {k}" for k in range(60))
        self.assertEqual(len(parse_book(sixty)["a"][1]), 60)
        for text, line, column in (
            ("row", 1, 4), ("row a 1", 1, 5), ("table a 1\nrow", 2, 4), ("table a 1\nrow  ", 2, 6), ("table a 1\nrow b 1", 2, 5),
            ("table a 1\nrow A 1", 2, 5), ("row a 1\ntable a 1", 1, 5), ("table a 1\nrow a", 2, 6), ("table a 1\nrow a ", 2, 7),
            ("table a 2\nrow a 1", 2, 8), ("table a 2\nrow a 1  ", 2, 10), ("table a 2\nrow a 1 x", 2, 9),
            ("table a 2\nrow a x 1", 2, 7), ("table a 1\nrow a 1 2", 2, 9), ("table a 1\nrow a 1  x", 2, 10),
            ("table a 1\nrow a 00", 2, 7), ("table a 1\nrow a 01", 2, 7), ("table a 1\nrow a -1", 2, 7),
            (f"table a 1\nrow a {BIG + 1}", 2, 7), ("table a 1\nrow a " + "1" * 41, 2, 7), ("table a 1\nrow a " + "1" * 5000, 2, 7),
            ("table a 1\nrow a 1\nrow a 1", 3, 7), ("table a 2\nrow a 1 2\nrow a 1 2", 3, 9),
            ("table a 2\nrow a 1 2\nrow a 1  2 3", 3, 10), ("table a 1\nrow a 1\nrow a 1 1", 3, 7),
            (sixty + "\nrow a 60", 63, 5), (sixty + "\nrow a x", 63, 5), (sixty + "\nrow  a", 63, 6),
            (sixty + "\nrow b", 63, 6),
        ):
            self.wrong(parse_book, text, line, column)


class QuestionTest(TextTest):
    def test_right_texts(self):
        six = ", ".join(f"t{k}(x)" for k in range(6))
        for text, question in (
            ("<- a(x)", ((), (("a", ("x",)),))), ("<-a(x)", ((), (("a", ("x",)),))), ("   <-  a  (  x  )  ", ((), (("a", ("x",)),))),
            ("x <- a(x)", (("x",), (("a", ("x",)),))), ("y,x<-a(x,y)", (("y", "x"), (("a", ("x", "y")),))),
            ("y , x <- a(x, 0), b(y)", (("y", "x"), (("a", ("x", 0)), ("b", ("y",))))),
            (f"<- a({BIG}, {BIG})", ((), (("a", (BIG, BIG)),))), ("a<-a(a,a)", (("a",), (("a", ("a", "a")),))),
            ("<- a(x, x, x, x, x, x)", ((), (("a", ("x",) * 6),))),
            (f"x <- {six}", (("x",), tuple((f"t{k}", ("x",)) for k in range(6)))),
            ("n1, n2, n3, n4, n5, n6, n7, n8 <- a(n1, n2, n3, n4), b(n5, n6, n7, n8, n1), n9(n8)",
             (tuple(f"n{k}" for k in range(1, 9)), (("a", ("n1", "n2", "n3", "n4")), ("b", ("n5", "n6", "n7", "n8", "n1")),
                                                    ("n9", ("n8",))))),
        ):
            self.assertEqual(parse_question(text), question)
            self.assertEqual(parse_question(format_question(question)), question)

    def test_canonical_texts(self):
        self.assertEqual(format_question((("y", "x"), (("a", ("x", 5, "y")), ("b", (0,))))), "y, x <- a(x, 5, y), b(0)")
        self.assertEqual(format_question(((), (("a", ("x",)),))), "<- a(x)")
        for number in range(300):
            source = references.source_of(number)
            _, atoms = references.some_question(source, 6)
            names = references.names_of(((), atoms))
            question = tuple(source.sample(names, source.randint(0, len(names)))), atoms
            text = format_question(question)
            self.assertEqual(parse_question(text), question)
            self.assertEqual(parse_question(text.replace(" ", "")), question)
            self.assertEqual(parse_question("".join(" " + sign + " " if sign in ",()" else sign for sign in text)), question)

    def test_heads(self):
        for text, column in (
            ("", 1), ("   ", 4), ("x", 2), ("x ", 3), ("x,", 3), ("x, <- a(x)", 4), (", <- a(x)", 1), ("X <- a(x)", 1),
            ("1 <- a(x)", 1), ("1x <- a(x)", 1), ("abcdefghi <- a(x)", 1), ("x y <- a(x)", 3), ("x(", 2), ("x < - a(x)", 3),
            ("x, y, x <- a(x, y)", 7), ("x,x<-a(x)", 3), ("x - a(x)", 3), ("x->a(x)", 2), ("\tx <- a(x)", 1), ("x\n<- a(x)", 2),
            ("(", 1), ("x, 5 <- a(x)", 4),
            ("n1, n2, n3, n4, n5, n6, n7, n8, n9 <- a(x)", 31), ("n1,n2,n3,n4,n5,n6,n7,n8,", 24),
            ("n1,n2,n3,n4,n5,n6,n7,n8 n9", 25),
        ):
            self.wrong(parse_question, text, 1, column)

    def test_atoms(self):
        six = "<- " + ", ".join(f"t{k}(x)" for k in range(6))
        for text, column in (
            ("<-", 3), ("<- ", 4), ("x <-", 5), ("<- <- a(x)", 4), ("<- A(x)", 4), ("<- 5(x)", 4), ("<- abcdefghi(x)", 4),
            ("<- a", 5), ("<- a x", 6), ("<- a)", 5), ("<- a,", 5), ("<- a(", 6), ("<- a()", 6), ("<- a(,", 6), ("<- a(x", 7),
            ("<- a(x  ", 9), ("<- a(x y)", 8), ("<- a(x(", 7), ("<- a(x,", 8), ("<- a(x,)", 8), ("<- a(X)", 6), ("<- a(01)", 6),
            ("<- a(1x)", 6), (f"<- a({BIG + 1})", 6), ("<- a(" + "9" * 41 + ")", 6), ("<- a(-1)", 6), ("<- a(abcdefghi)", 6),
            ("<- a(x) b(x)", 9), ("<- a(x))", 8), ("<- a(x).", 8), ("<- a(x),", 9), ("<- a(x), ", 10), ("<- a(x), a(y)", 10),
            ("<- a(x), b(x), a", 16), ("<- a(x);b(x)", 8), ("<- a(x)\n", 8), ("<- a(x, x, x, x, x, x, x)", 22),
            ("<- a(1,2,3,4,5,6,", 17), (six + ", t6(x)", len(six) + 1), (six + ",", len(six) + 1), (six + " .", len(six) + 2),
            ("<- a(x) <- b(x)", 9), ("<- a(x, \u00e4)", 9), ("<- a(x,y<-", 9),
        ):
            self.wrong(parse_question, text, 1, column)

    def test_the_ninth_name(self):
        self.wrong(parse_question, "<- a(n1, n2, n3, n4, n5), b(n6, n7, n8, n9)", 1, 41)
        self.wrong(parse_question, "n1, n2, n3, n4, n5, n6, n7, n8 <- a(n1, x, y)", 1, 41)
        self.wrong(parse_question, "n1, n2, n3, n4, n5, n6, n7, n8 <- a(x", 1, 37)
        self.assertEqual(len(parse_question("<- n9(n1, n2, n3, n4, n5), n0(n6, n7, n8, n1, 5)")[1]), 2)

    def test_a_head_name_in_no_atom(self):
        self.wrong(parse_question, "x <- a(y)", 1, 1)
        self.wrong(parse_question, "  y,  x , z <- a(y)", 1, 7)
        self.wrong(parse_question, "z, x <- a(x, 5), z(x)", 1, 1)
        # Any other problem goes ahead of it.
        self.wrong(parse_question, "x <- a(y),", 1, 11)
        self.wrong(parse_question, "x <- a(y) b", 1, 11)
        self.wrong(parse_question, "x <- a(y), a(x)", 1, 12)


class PricesTest(TextTest):
    def test_right_texts(self):
        many = {f"t{k}": k + 1 for k in range(12)}
        for text, prices in (
            ("", {}), ("   ", {}), ("a 1", {"a": 1}), ("a firm", {"a": None}), ("  b  2 ,a firm  ", {"b": 2, "a": None}),
            ("firm firm,a 3", {"firm": None, "a": 3}), (f"a {BIG}", {"a": BIG}), (format_prices(many), many),
        ):
            self.assertEqual(parse_prices(text), prices)
            self.assertEqual(list(parse_prices(text)), list(prices))
            self.assertEqual(parse_prices(format_prices(prices)), prices)

    def test_canonical_texts(self):
        self.assertEqual(format_prices({}), "")
        self.assertEqual(format_prices({"b": 2, "a": None, "c": BIG}), f"b 2, a firm, c {BIG}")

    def test_problems(self):
        for text, column in (
            ("a", 2), ("a ", 3), ("a,", 2), ("a 0", 3), ("a 01", 3), (f"a {BIG + 1}", 3), ("a " + "1" * 41, 3), ("a Firm", 3),
            ("a firms", 3), ("a -1", 3), ("a b", 3), ("a2", 3), ("A 2", 1), ("5 2", 1), (", a 2", 1), ("abcdefghi 2", 1),
            ("a 2,", 5), ("a 2, ", 6), ("a 2 b 3", 5), ("a 2,, b 3", 5), ("a 2, a 3", 6), ("a 2, b 3, a", 11), ("a 2 3", 5),
            ("a 2; b 3", 4), ("a 2\n", 4), ("\na 2", 1), ("a 2.0", 4), ("a firm b", 8), ("a <- 2", 3), ("a\t2", 2),
        ):
            self.wrong(parse_prices, text, 1, column)


class PaperTest(TextTest):
    def test_right_texts(self):
        for text, paper in (
            ("cut 0", ("cut", 0, (), ())), ("\n cut   0 \n\n", ("cut", 0, (), ())),
            ("cut 2\nrow a 1\nway 2 1", ("cut", 2, (("a", (1,)),), (((1,), 2),))),
            ("cut 2\nway 2\nway 3", ("cut", 2, (), (((), 2), ((), 3)))),
            ("cut 2\nrow b 9 0\nrow a 1\nrow a 1", ("cut", 2, (("b", (9, 0)), ("a", (1,)), ("a", (1,))), ())),
            (f"cut {FORTY}\nrow a 1 2 3 4 5 6 7 8 {BIG}\nway {FORTY} {BIG}",
             ("cut", FORTY, (("a", (1, 2, 3, 4, 5, 6, 7, 8, BIG)),), (((BIG,), FORTY),))),
            ("stands", ("stands", ())), ("stands 0 5", ("stands", (0, 5))), (" \n stands  7\n ", ("stands", (7,))),
            ("triad r s t\nchain r s\nchain r t\nchain s u s u s t",
             (("r", "s", "t"), (("r", "s"), ("r", "t"), ("s", "u", "s", "u", "s", "t")))),
            ("triad cut cut cut\n\nchain a a\nchain a b\n chain row way\n",
             (("cut", "cut", "cut"), (("a", "a"), ("a", "b"), ("row", "way")))),
        ):
            self.assertEqual(parse_paper(text), paper)
            self.assertEqual(parse_paper(format_paper(paper)), paper)

    def test_canonical_texts(self):
        for paper, text in (
            (("cut", 0, (), ()), "cut 0"), (("stands", ()), "stands"), (("stands", (5, 0)), "stands 5 0"),
            (("cut", 3, (("a", (1, 2)), ("b", (3,))), (((), 1), ((4, 5), 2))), "cut 3\nrow a 1 2\nrow b 3\nway 1\nway 2 4 5"),
            ((("r", "s", "t"), (("r", "s"), ("r", "u", "t"), ("s", "t"))), "triad r s t\nchain r s\nchain r u t\nchain s t"),
        ):
            self.assertEqual(format_paper(paper), text)

    def test_papers_of_many_questions(self):
        for number in range(300):
            source = references.source_of(number)
            question = references.some_question(source, 4)
            book = references.some_book(source, question, 5, 2)
            prices = references.some_prices(source, question)
            pinned = references.some_pinned(source, book, question, prices)
            error = raised(least_cut, book, question, prices, pinned)
            told = least_cut(book, question, prices, pinned) if error is None else error[1]["paper"]
            self.assertEqual(parse_paper(format_paper(told)), told)
            self.assertIs(judges(book, question, prices, pinned, format_paper(told)), True)

    def test_first_words_and_lines(self):
        triad = "triad r s t\nchain r s\nchain r t\nchain s t"
        for text, line, column in (
            ("", 2, 1), ("\n", 3, 1), ("  ", 2, 1), ("row a 1", 1, 1), ("  way 1", 1, 3), ("chain a b", 1, 1), ("Cut 1", 1, 1),
            ("cut 1\ncut 1", 2, 1), ("cut 1\n way 1\n  row a 1", 3, 3), ("cut 1\nrow a 1\nstands", 3, 1), ("cut 1\nchain", 2, 1),
            ("stands 1\n\nstands 1", 3, 1), ("stands\n way 1", 2, 2), ("triad r s t", 2, 1), ("triad r s t\n", 3, 1),
            ("triad r s t\nchain r s\n\nchain r t\n", 6, 1), ("triad r s t\nrow a 1", 2, 1), (triad + "\nchain s t", 5, 1),
            (triad + "\n x", 5, 2), ("triad r s t\nchain r s\n cut 1", 3, 2), ("claim each a 1", 1, 1),
        ):
            self.wrong(parse_paper, text, line, column)

    def test_words(self):
        for text, line, column in (
            ("cut", 1, 4), ("cut  ", 1, 6), ("cut x", 1, 5), ("cut -1", 1, 5), ("cut 01", 1, 5), ("cut " + "1" * 41, 1, 5),
            ("cut 1 2", 1, 7), ("cut 1\nrow", 2, 4), ("cut 1\nrow ", 2, 5), ("cut 1\nrow A 1", 2, 5), ("cut 1\nrow 1", 2, 5),
            ("cut 1\nrow a", 2, 6), ("cut 1\nrow a  ", 2, 8), ("cut 1\nrow a x", 2, 7), ("cut 1\nrow a 1 x", 2, 9),
            (f"cut 1\nrow a {BIG + 1}", 2, 7), ("cut 1\nrow a 1 01", 2, 9), ("cut 1\nway", 2, 4), ("cut 1\nway  ", 2, 6),
            ("cut 1\nway 0", 2, 5), ("cut 1\nway x", 2, 5), ("cut 1\nway " + "9" * 41, 2, 5), ("cut 1\nway 1 x", 2, 7),
            (f"cut 1\nway 1 {BIG + 1}", 2, 7), ("cut 1\nway 1 2 -3", 2, 9), ("stands x", 1, 8), (f"stands 1 {BIG + 1}", 1, 10),
            ("stands 1 00", 1, 10), ("triad", 1, 6), ("triad r", 1, 8), ("triad r s", 1, 10), ("triad r s ", 1, 11),
            ("triad r s t u", 1, 13), ("triad r S t", 1, 9), ("triad r s 5", 1, 11), ("triad r s t\nchain", 2, 6),
            ("triad r s t\nchain r", 2, 8), ("triad r s t\nchain r 5", 2, 9), ("triad r s t\nchain a b c d e f g", 2, 19),
            ("triad r s t\nchain r s\nchain r t\n chain s ", 4, 10), ("triad r s t\nchain a b c d e F", 2, 17),
        ):
            self.wrong(parse_paper, text, line, column)


class JudgeTest(unittest.TestCase):
    def judged(self, book, question, prices, pinned, text):
        """By the papers that a text may be of."""
        try:
            paper = parse_paper(text)
        except SyntaxProblem:
            return False
        if paper[0] in ("cut", "stands"):
            return references.judge_least(book, question, prices, pinned, paper)
        tables = [references.line_tables(question, prices, pinned, piece) for piece in references.pieces(question)]
        return any(references.judge_triad(question, some, paper) for some in tables)

    def test_right_papers_changed_at_any_place(self):
        book = {"r": (2, ((1, 1), (2, 2))), "s": (2, ((1, 1), (2, 2))), "t": (2, ((1, 1), (2, 2)))}
        triad = triad_of(TRIANGLE, ("r", "s", "t"))
        cut = ("cut", 2, (("s", (1, 1)), ("t", (2, 2))), (((1, 1, 1), 1), ((2, 2, 2), 1)))
        right = 0
        for prices in (dict.fromkeys("rst", 1), {"r": 1, "s": 1, "t": None}, dict.fromkeys("rst")):
            for pinned in (None, (("r", (1, 1)), ("s", (1, 1)), ("t", (1, 1)))):
                if pinned is None or None not in prices.values():
                    for paper in (triad, cut, ("stands", (1, 1, 1))):
                        for text in self.changed(format_paper(paper)):
                            told = judges(book, TRIANGLE, prices, pinned, text)
                            self.assertIs(told, self.judged(book, TRIANGLE, prices, pinned, text), text)
                            right += told
        self.assertGreater(right, 10)

    def changed(self, text):
        words = ["cut", "row", "way", "stands", "triad", "chain", "r", "s", "t", "0", "1", "2", "01", "", "\n"]
        yield text
        yield text.replace(" ", "  ").replace("\n", "\n\n ")
        yield text + "\n"
        yield text.replace("\n", " \n ")
        parts = text.replace("\n", " \n ").split(" ")
        for at in range(len(parts)):
            yield " ".join(parts[:at] + parts[at + 1:])
            yield " ".join(parts[:at] + parts[at:at + 1] + parts[at:])
            yield " ".join(parts[:at] + parts[at + 1:at + 2] + parts[at:at + 1] + parts[at + 2:])
            for word in words:
                yield " ".join(parts[:at] + [word] + parts[at + 1:])

    def test_a_triad_of_some_piece(self):
        question = ((), (("a", ("x",)),) + TRIANGLE[1])
        book = {"a": (1, ()), **{table: (2, ()) for table in "rst"}}
        text = format_paper(triad_of(TRIANGLE, ("r", "s", "t")))
        prices = dict.fromkeys("arst", 1)
        self.assertIs(judges(book, question, prices, None, text), True)
        self.assertIs(judges(book, question, prices, (), text), True)
        self.assertIs(judges(book, question, {**prices, "r": None}, None, text), False)
        # A table that rules r is no member of the triad, but with pins r is one.
        ruled = ((), question[1][1:] + (("a", ("p",)),))
        self.assertIs(judges(book, ruled, prices, None, text), False)
        self.assertIs(judges(book, ruled, prices, (), text), True)

    def test_texts_that_are_none(self):
        prices = {"a": 2, "b": None}
        for text in ("", "nothing", "cut", "cut 2\nrow a 1", "cut 2 \nrow a 1\nway 2 1\nway", "Cut 0", "\u0663", "{}"):
            self.assertIs(judges(BOOK, QUESTION, prices, None, text), False)
        self.assertIs(judges(BOOK, QUESTION, prices, None, "cut 2\nrow a 1\nway 2 1"), True)
        self.assertIs(judges(BOOK, QUESTION, prices, None, "cut 2\nrow a 1\nway 1 1\nway 1 1"), False)

    def test_what_it_raises_whatever_the_text_is(self):
        for text in ("", "cut 0", "stands 1", "x"):
            for question in ANY_OBJECTS + [(("x",), QUESTION[1])]:
                if question != ((), (("a", (1,)),)):
                    self.assertEqual(raised(judges, BOOK, question, None, None, text)[0], NoQuestion)
            for prices in ANY_OBJECTS:
                self.assertEqual(raised(judges, BOOK, QUESTION, prices, [], text)[0], NoPrice)
            for pinned in ANY_OBJECTS:
                if pinned is not None and pinned != ():
                    self.assertEqual(raised(judges, BOOK, QUESTION, {"a": 2, "b": None}, pinned, text)[0], NoRow)

    def test_too_many_where_shows_least_raises_it(self):
        sixty = tuple((k,) for k in range(60))
        book = {"a": (1, sixty), "b": (1, sixty), "c": (2, ((0, 0),))}
        question, prices = ((), (("a", ("x",)), ("b", ("y",)), ("c", ("x", "y")))), dict.fromkeys("abc", 1)
        for text, much in (
            ("cut 1\nrow a 0\nway 1 0 0", True), ("cut 5\nrow a 0", True), ("cut 0", True), ("cut 1\nrow a 77", False),
            ("cut 1\nrow b 0\nrow a 0", False), ("cut 1\nrow a 0\nway", False), ("stands 0 0", False), ("", False),
            ("triad a b c\nchain a c\nchain a c\nchain b c", False),
        ):
            if much:
                self.assertEqual(raised(judges, book, question, prices, None, text), (TooMany, {"limit": 2000}))
            else:
                self.assertIs(judges(book, question, prices, None, text), False)

    def test_it_raises_no_line(self):
        book = {table: (2, ()) for table in "rst"}
        prices = dict.fromkeys("rst", 1)
        self.assertEqual(raised(least_cut, book, TRIANGLE, prices, None)[0], NoLine)
        self.assertIs(judges(book, TRIANGLE, prices, None, "cut 0"), True)
        self.assertIs(judges(book, TRIANGLE, prices, None, "stands 1 1 1"), False)


class ArgumentsTest(unittest.TestCase):
    def test_no_argument_is_modified(self):
        told = least_cut(BOOK, QUESTION, {"a": 2, "b": None}, None)
        book, prices = copy.deepcopy(BOOK), {"a": 2, "b": None}
        keeps_arguments(self, format_book, book)
        keeps_arguments(self, format_question, QUESTION)
        keeps_arguments(self, format_prices, prices)
        text = keeps_arguments(self, format_paper, told)
        self.assertIs(keeps_arguments(self, judges, book, QUESTION, prices, None, text), True)
        self.assertIs(shows_least(book, QUESTION, prices, None, parse_paper(text)), True)
        for parse, words in ((parse_book, "table a 1"), (parse_prices, "a 1")):
            self.assertIsNot(parse(words), parse(words))


if __name__ == "__main__":
    unittest.main()
