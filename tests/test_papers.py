import unittest

import references
import surveys
from answercut import papers
from answercut.blame import blame, shows_blame
from answercut.claims import about_row, about_rows
from answercut.errors import NoPrice, NoQuestion, NoRow, SyntaxProblem, TooMany
from answercut.groups import shows_spared, sparing
from answercut.orders import order_papers, orders
from answercut.papers import format_claim, format_moving, format_order, format_roof, format_sets
from answercut.papers import judges_claim, judges_order, judges_roof
from answercut.papers import parse_claim, parse_moving, parse_order, parse_roof, parse_sets
from answercut.roofs import roof
from helpers import keeps_arguments, raised
from oddities import ANY_OBJECTS, NEVER_RIGHT, shown
from test_groups import some_cases
from test_orders import chains, net, net_atoms, net_prices, with_last

FORTY = 10 ** 40 - 1
BIG = 10 ** 30
MOST = 10 ** 13
WORDS = [
    "claim", "each", "not", "never", "both", "with", "none", "some", "and", "price", "row", "way", "order", "step",
    "leave",
    "come", "least", "roof", "from", "end", "stands", "blame", "spared", "stay", "set", "a", "B", "0", "1", "7", "01",
    "-1",
    str(BIG), str(BIG + 1), str(FORTY), str(FORTY + 1), "", "\n",
]


def changed(text):
    """Texts with a word left out, put in, twice, exchanged or replaced; and with other spaces and empty lines."""
    yield text
    yield text.replace(" ", "   ").replace("\n", "\n\n  ")
    yield "\n " + text + " \n"
    parts = text.replace("\n", " \n ").split(" ")
    for at in range(len(parts) + 1):
        yield " ".join(parts[:at])
        yield " ".join(parts[:at]) + "\n"
        yield " ".join(parts[:at] + parts[at + 1:])
        yield " ".join(parts[:at] + parts[at:at + 1] + parts[at:])
        yield " ".join(parts[:at] + parts[at + 1:at + 2] + parts[at:at + 1] + parts[at + 2:])
        for word in WORDS:
            yield " ".join(parts[:at] + [word] + parts[at + 1:])
            yield " ".join(parts[:at] + [word] + parts[at:])


def is_number(least, most):
    return lambda word: word.isdigit() and word.isascii() and str(int(word)) == word and least <= int(word) <= most


def is_name(word):
    return word.isascii() and word.isalnum() and word == word.lower() and word[0].isalpha() and len(word) <= 8


WORTH, PRICE, AMOUNT = is_number(0, BIG), is_number(0, FORTY), is_number(1, FORTY)
ROW = [("one", is_name), ("one", WORTH), ("any", WORTH)]
WAY = [("one", AMOUNT), ("any", WORTH)]
FREE = [("any", WORTH)]
KINDS = {"each": 1, "not each": 1, "some": 1, "none": 1, "never both": 2, "both": 2, "with": 2, "not with": 2}


def claim_spec(words):
    """What is due behind the word claim, by its first words."""
    one = words[:1] and words[0] in ("not", "never")
    kind = " ".join(words[:2]) if one else "".join(words[:1])
    first = [("one", lambda word: word in ("not", "never") or word in KINDS)]
    if one:
        first.append(("one", lambda word: f"{words[0]} {word}" in KINDS))
    if KINDS.get(kind) == 2:
        return first + ROW + [("one", lambda word: word == "and")] + ROW
    return first + ROW


# By the state: the first words that are due, with what is due behind them and the state behind the line.
CLAIM = {"claim": (claim_spec, "price")}
GRAMMARS = {
    "claim": {
        "begin": CLAIM, "price": {"price": ([("one", PRICE)], "rows")},
        "rows": {"row": (ROW, "rows"), "way": (WAY, "ways")}, "ways": {"way": (WAY, "ways")}, "ends": ("rows", "ways"),
    },
    "order": {
        "begin": {"order": ([], "rows")},
        "rows": {"row": (ROW, "rows"), "step": (FREE, "leaves"), "least": ([], "amounts")},
        "leaves": {"leave": (ROW, "leaves"), "come": (ROW, "comes"), "step": (FREE, "leaves"),
        "least": ([], "amounts")},
        "comes": {"come": (ROW, "comes"), "step": (FREE, "leaves"), "least": ([], "amounts")},
        "amounts": {"way": (WAY, "amounts"), **CLAIM},
        "price": {"price": ([("one", PRICE)], "shown")},
        "shown": {"row": (ROW, "shown"), "way": (WAY, "amounts"), **CLAIM},
        "ends": ("amounts", "shown"),
    },
    "roof": {
        "begin": {"roof": ([], "froms"), "stands": (FREE, "done")},
        "froms": {"from": ([("one", PRICE)] * 4, "rows"), "end": ([], "last")},
        "rows": {"row": (ROW, "rows"), "way": (WAY, "ways"), "from": ([("one", PRICE)] * 4, "rows"),
        "end": ([], "last")},
        "ways": {"way": (WAY, "ways"), "from": ([("one", PRICE)] * 4, "rows"), "end": ([], "last")},
        "last": {"way": (WAY, "last")}, "done": {}, "ends": ("last", "done"),
    },
    "sets": {
        "begin": {"blame": ([("one", PRICE)], "blamed"), "spared": ([("one", PRICE)], "spared"), "none": ([], "sets")},
        "blamed": {"row": (ROW, "blamed"), "stay": (FREE, "sets")},
        "spared": {"row": (ROW, "spared"), "stay": (FREE, "stays"), "set": ([], "rows")},
        "stays": {"stay": (FREE, "stays"), "set": ([], "rows")},
        "sets": {"set": ([], "rows")},
        "rows": {"row": (ROW, "rows"), "stands": (FREE, "sets"), "way": (WAY, "ways"), "set": ([], "rows")},
        "ways": {"way": (WAY, "ways"), "set": ([], "rows")},
        "ends": ("spared", "stays", "sets", "rows", "ways"),
    },
}


def wrong_word(words, spec):
    """The place of the first of some words at which reading can't go on, None if all are right."""
    at = 0
    for many, right in spec:
        if many == "one" and (at == len(words) or not right(words[at])):
            return at
        at += many == "one"
        while many == "any" and at < len(words) and right(words[at]):
            at += 1
    return at if at < len(words) else None


def first_problem(text, grammar):
    """The line and column of the first problem of a text, None if there is none."""
    state = "begin"
    lines = text.split("\n")
    for number, line in enumerate(lines, start=1):
        columns = [at + 1 for at in range(len(line)) if line[at] != " " and (at == 0 or line[at - 1] == " ")] + [len(line) + 1]
        words = line.split()
        if not words:
            continue
        if words[0] not in grammar[state]:
            return number, columns[0]
        spec, state = grammar[state][words[0]]
        at = wrong_word(words[1:], spec(words[1:]) if callable(spec) else spec)
        if at is not None:
            return number, columns[at + 1]
    return None if state in grammar["ends"] else (len(lines) + 1, 1)


class TextTest(unittest.TestCase):
    def wrong(self, parse, text, line, column):
        self.assertEqual(raised(parse, text), (SyntaxProblem, {"line": line, "column": column}), text)

    def agree(self, parse, kind, text):
        """Whether a text can be read, by its grammar."""
        problem = first_problem(text, GRAMMARS[kind])
        if problem is None:
            self.assertIsNone(raised(parse, text), text)
        else:
            self.wrong(parse, text, *problem)
        return problem is None


class InterfaceTest(unittest.TestCase):
    def test_functions_are_defined_in_this_file(self):
        told = (format_claim, format_moving, format_order, format_roof, format_sets, judges_claim, judges_order,
            judges_roof,
                parse_claim, parse_moving, parse_order, parse_roof, parse_sets)
        self.assertEqual({each.__module__ for each in told}, {papers.__name__})

    def test_example(self):
        book = {"a": (1, ((1,), (2,)))}
        question, prices = ((), (("a", ("x",)),)), {"a": 2}
        claim, paper = ("with", ("a", (1,)), ("a", (2,))), (4, (("a", (1,)), ("a", (2,))), (((1,), 1), ((2,), 3)))
        text = format_claim(claim, paper)
        self.assertEqual(text, "claim with a 1 and a 2\nprice 4\nrow a 1\nrow a 2\nway 1 1\nway 3 2")
        self.assertEqual(parse_claim(text), (claim, paper))
        self.assertIs(judges_claim(book, question, prices, None, text), True)
        self.assertEqual(format_moving(parse_moving("a 0 3,b firm")), "a 0 3, b firm")
        told = parse_roof("roof\nfrom 0 1 2 0\nrow a 1\nway 2 1\nend")
        self.assertEqual(told, ("roof", (((0, 1), 2, 0, (("a", (1,)),)),), ((((1,), 2),), ())))


class MovingTest(TextTest):
    def test_right_texts(self):
        for text, moving in (
            ("", {}), ("   ", {}), ("a 3 0, b firm", {"a": (3, 0), "b": None}),
            (" a   3 0 ,b    firm ", {"a": (3, 0), "b": None}),
            (f"z 0 {MOST},a {MOST} 0", {"z": (0, MOST), "a": (MOST, 0)}),
            ("firm firm,b1 0 1", {"firm": None, "b1": (0, 1)}),
            ("a 1 1,b 1 1", {"a": (1, 1), "b": (1, 1)}),
        ):
            self.assertEqual(parse_moving(text), moving)
            self.assertEqual(list(parse_moving(text)), list(moving))
            self.assertEqual(parse_moving(format_moving(moving)), moving)

    def test_canonical_texts(self):
        self.assertEqual(format_moving({}), "")
        self.assertEqual(format_moving({"b": (0, 5), "a": None, "c": (MOST, 0)}), f"b 0 5, a firm, c {MOST} 0")

    def test_problems(self):
        for text, column in (
            (",", 1), ("1 2 3", 1), ("A 1 1", 1), ("abcdefghi 1 1", 1), ("a", 2), ("a ", 3), ("a,", 2), ("a 1", 4),
            ("a 1 ", 5),
            ("a 1,", 4), ("a 1, b 1 1", 4), ("a 1 1,", 7), ("a 1 1, ", 8), ("a 1 1 1", 7), ("a 1 1 b 1 1", 7),
            ("a firm 1", 8),
            ("a firm firm", 8), ("a 1 firm", 5), ("a 0 0", 5), ("a 0 0,b 1 1", 5), ("a 1 1, a 1 1", 8),
            ("a 1 1, b 1 1, a firm", 15),
            ("a 01 1", 3), ("a 1 01", 5), ("a -1 1", 3), ("a 1 -1", 5), (f"a {MOST + 1} 1", 3), (f"a 1 {MOST + 1}", 5),
            ("a x 1", 3),
            ("a 1 x", 5), ("a 1.1", 4), ("a 1 1\nb 1 1", 6), ("a 1;1", 4), ("a(1 1)", 2), ("a b 1 1", 3),
            ("firm 1", 7), ("a 00 1", 3),
        ):
            self.wrong(parse_moving, text, 1, column)


class ClaimTest(TextTest):
    def test_right_texts(self):
        for text, told in (
            ("claim each a 1\nprice 0", (("each", ("a", (1,))), (0, (), ()))),
            (" claim  not   each a 1 2\n\nprice 3\n", (("not each", ("a", (1, 2))), (3, (), ()))),
            ("claim never  both and 1 and and 2\nprice 3\nrow a 1\nway 1", (
                ("never both", ("and", (1,)), ("and", (2,))), (3, (("a", (1,)),), (((), 1),)))),
            ("claim not with with 1 2 3 and b 2\nprice 0\nway 1 2\nway 3", (
                ("not with", ("with", (1, 2, 3)), ("b", (2,))), (0, (), (((2,), 1), ((), 3))))),
            (f"claim none not {BIG}\nprice {FORTY}\nrow none 0 {BIG}\nway {FORTY} {BIG}", (
                ("none", ("not", (BIG,))), (FORTY, (("none", (0, BIG)),), (((BIG,), FORTY),)))),
            ("claim both a 1 and a 1\nprice 1", (("both", ("a", (1,)), ("a", (1,))), (1, (), ()))),
            ("claim some a 1 2 3 4 5 6 7 8\nprice 1", (("some", ("a", (1, 2, 3, 4, 5, 6, 7, 8))), (1, (), ()))),
        ):
            self.assertEqual(parse_claim(text), told)
            self.assertEqual(parse_claim(format_claim(*told)), told)

    def test_canonical_texts(self):
        paper = (3, (("a", (1,)),), (((), 2), ((4, 5), 1)))
        for kind in surveys.KINDS:
            rows = (("a", (1, 2)), ("b", (3,)))[:1 if kind in surveys.KINDS[:4] else 2]
            named = "a 1 2" if len(rows) == 1 else "a 1 2 and b 3"
            self.assertEqual(format_claim((kind, *rows), paper),
                f"claim {kind} {named}\nprice 3\nrow a 1\nway 2\nway 1 4 5")

    def test_problems(self):
        for text, line, column in (
            ("", 2, 1), ("\n\n", 4, 1), ("price 1", 1, 1), ("  row a 1", 1, 3), ("claim", 1, 6), ("claim ", 1, 7),
            ("claim all a 1", 1, 7),
            ("claim not", 1, 10), ("claim not both a 1", 1, 11), ("claim never each a 1", 1, 13),
            ("claim not each", 1, 15),
            ("claim not  a 1", 1, 12), ("claim each", 1, 11), ("claim each A 1", 1, 12), ("claim each a", 1, 13),
            ("claim each a ", 1, 14),
            ("claim each a x", 1, 14), ("claim each a 1 and b 1", 1, 16), (f"claim each a {BIG + 1}", 1, 14),
            ("claim both a 1", 1, 15),
            ("claim both a 1 ", 1, 16), ("claim both a and b 1", 1, 14), ("claim both a 1 with b 1", 1, 16),
            ("claim both a 1 and", 1, 19),
            ("claim both a 1 and b", 1, 21), ("claim both a 1 and 1", 1, 20), ("claim both a 1 and b 1 and c 1", 1, 24),
            ("claim each a 1", 2, 1), ("claim each a 1\n", 3, 1), ("claim each a 1\n\nrow a 1", 3, 1),
            ("claim each a 1\nprice", 2, 6),
            ("claim each a 1\nprice 1 1", 2, 9), ("claim each a 1\nprice 01", 2, 7),
            (f"claim each a 1\nprice {FORTY + 1}", 2, 7),
            ("claim each a 1\nprice 1\nway 0 1", 3, 5), ("claim each a 1\nprice 1\nway 1\nrow a 1", 4, 1),
            ("claim each a 1\nprice 1\nprice 1", 3, 1), ("claim each a 1\nprice 1\nclaim each a 1", 3, 1),
            ("claim each a 1 \nprice 1\nrow a", 3, 6),
            ("claim never  with a 1", 1, 14), ("claim with a 1 and and b", 1, 24), ("claim each 1", 1, 12),
            ("Claim each a 1", 1, 1),
        ):
            self.wrong(parse_claim, text, line, column)
            self.assertIs(self.agree(parse_claim, "claim", text), False)

    def test_changed_anywhere(self):
        for text in ("claim never both a 1 2 and b 0\nprice 3\nrow a 1\nrow c 2 2\nway 1 2\nway 3",
                "claim not each a 7\nprice 1"):
            told = [self.agree(parse_claim, "claim", other) for other in changed(text)]
            self.assertGreater(sum(told), 20)


class OrderTest(TextTest):
    TEXT = (
        "order\nrow a 1\nrow b 2 2\nstep\nleave a 1\ncome c 3\ncome c 4\nstep 0\nleave b 2 2\nstep 0 1\ncome d 1\nleast\nway 2 1\nway 1\n"
        "claim never both c 3 and a 1\nprice 3\nrow a 1\nway 1 1\nclaim none d 5\nprice 0"
    )
    TOLD = (
        (("a", (1,)), ("b", (2, 2))),
        (((("a", (1,)),), (("c", (3,)), ("c", (4,))), ()), ((("b", (2, 2)),), (), (0,)), ((), (("d", (1,)),), (0, 1))),
        (((1,), 2), ((), 1)),
        ((("never both", ("c", (3,)), ("a", (1,))), (3, (("a", (1,)),), (((1,), 1),))),
        (("none", ("d", (5,))), (0, (), ()))),
    )

    def test_right_texts(self):
        for text, told in (
            ("order\nleast", ((), (), (), ())), (" order \n\n least ", ((), (), (), ())), (self.TEXT, self.TOLD),
            (f"order\nstep 5 {BIG} 0\nstep\nleast", ((), (((), (), (5, BIG, 0)), ((), (), ())), (), ())),
        ):
            self.assertEqual(parse_order(text), told)
            self.assertEqual(parse_order(format_order(told)), told)
        self.assertEqual(format_order(self.TOLD), self.TEXT)
        self.assertEqual(format_order(((), (), (), ())), "order\nleast")

    def test_problems(self):
        for text, line, column in (
            ("", 2, 1), ("least", 1, 1), ("order 1", 1, 7), ("order", 2, 1), ("order\n", 3, 1), ("order\nrow a", 2, 6),
            ("order\nrow a 1", 3, 1),
            ("order\nleave a 1", 2, 1), ("order\nstep x", 2, 6), ("order\nstep 01", 2, 6),
            (f"order\nstep 1 {BIG + 1}", 2, 8),
            ("order\nstep\ncome a 1\nleave a 1", 4, 1), ("order\nstep\nrow a 1", 3, 1), ("order\nstep\nleave a", 3, 8),
            ("order\nstep\ncome A 1", 3, 6),
            ("order\nstep\nleave a 1\n", 5, 1), ("order\nleast 1", 2, 7), ("order\nleast\nway", 3, 4),
            ("order\nleast\nrow a 1", 3, 1),
            ("order\nleast\nstep", 3, 1), ("order\nleast\nclaim each a 1", 4, 1),
            ("order\nleast\nclaim each a 1\nway 1", 4, 1),
            ("order\nleast\nclaim each a 1\nprice 1\nleast", 5, 1), ("order\nleast\nway 1\nclaim both a 1", 4, 15),
            ("order\norder", 2, 1),
            ("order\nleast\nclaim each a 1\nprice 1\nway 1\nrow a 1", 6, 1),
        ):
            self.wrong(parse_order, text, line, column)
            self.assertIs(self.agree(parse_order, "order", text), False)

    def test_changed_anywhere(self):
        self.assertGreater(sum(self.agree(parse_order, "order", text) for text in changed(self.TEXT)), 100)


class RoofTest(TextTest):
    TEXT = "roof\nfrom 0 1 2 5\nrow a 1\nrow b 2 2\nway 2 1\nfrom 3 7 9 0\nend\nway 5 1\nway 1"
    TOLD = (
        "roof", (((0, 1), 2, 5, (("a", (1,)), ("b", (2, 2)))), ((3, 7), 9, 0, ())),
        ((((1,), 2),), (), (((1,), 5), ((), 1)))
    )

    def test_right_texts(self):
        for text, told in (
            ("stands", ("stands", ())), (f"\n stands 1 {BIG} \n", ("stands", (1, BIG))), (self.TEXT, self.TOLD),
            (f"roof\nfrom {FORTY} 0 {FORTY} 0\nend", ("roof", (((FORTY, 0), FORTY, 0, ()),), ((), ()))),
            ("roof\nend", ("roof", (), ((),))),
        ):
            self.assertEqual(parse_roof(text), told)
            self.assertEqual(parse_roof(format_roof(told)), told)
        self.assertEqual(format_roof(self.TOLD), self.TEXT)
        self.assertEqual([format_roof(("stands", ())), format_roof(("stands", (1, 0)))], ["stands", "stands 1 0"])

    def test_problems(self):
        for text, line, column in (
            ("", 2, 1), ("end", 1, 1), ("roof 1", 1, 6), ("roof", 2, 1), ("roof\nrow a 1", 2, 1), ("roof\nfrom", 2, 5),
            ("roof\nfrom 1 2 3", 2, 11),
            ("roof\nfrom 1 2 3 ", 2, 12), ("roof\nfrom 1 2 3 4 5", 2, 14), ("roof\nfrom 1 2 3 x", 2, 12),
            (f"roof\nfrom {FORTY + 1} 1 1 1", 2, 6),
            ("roof\nfrom 0 01 1 1", 2, 8), ("roof\nfrom 1 2 3 4", 3, 1), ("roof\nfrom 1 2 3 4\nway 1\nrow a 1", 4, 1),
            ("roof\nend 1", 2, 5),
            ("roof\nend\nfrom 1 2 3 4", 3, 1), ("roof\nend\nrow a 1", 3, 1), ("roof\nend\nend", 3, 1),
            ("stands x", 1, 8), ("stands\nway 1", 2, 1),
            ("stands 1\nstands 1", 2, 1), ("stands\nroof", 2, 1), ("roof\nstands", 2, 1), ("cut 1", 1, 1),
            ("roof\nfrom 0 1 2 3\nrow a 1\nend\nway", 5, 4),
        ):
            self.wrong(parse_roof, text, line, column)
            self.assertIs(self.agree(parse_roof, "roof", text), False)

    def test_changed_anywhere(self):
        for text in (self.TEXT, "stands 1 2"):
            self.assertGreater(sum(self.agree(parse_roof, "roof", other) for other in changed(text)), 30)


class SetsTest(TextTest):
    A, B = ("a", (1,)), ("b", (2, 2))
    TEXTS = {
        "blame 3\nrow a 1\nstay 4 5\nset\nrow a 1\nrow b 2 2\nway 3 4 5\nset\nway 1\nway 2 7":
            ("blame", 3, (A,), (4, 5), (((A, B), (((4, 5), 3),)), ((), (((), 1), ((7,), 2))))),
        "spared 0\nstay\nstay 1\nset\nset\nrow a 1": ("spared", 0, (), ((), (1,)), (((), ()), ((A,), ()))),
        "none\nset\nrow a 1\nstands 1 2\nset\nstands": ("none", (((A,), (1, 2)), ((), ()))),
        "none": ("none", ()), "blame 0\nstay": ("blame", 0, (), (), ()), "spared 7": ("spared", 7, (), (), ()),
    }

    def test_right_texts(self):
        for text, told in self.TEXTS.items():
            self.assertEqual(parse_sets(text), told)
            self.assertEqual(format_sets(told), text)
            self.assertEqual(parse_sets(text.replace(" ", "  ").replace("\n", " \n\n ")), told)

    def test_stands_and_ways_are_read_in_either(self):
        for text, told in (
            ("none\nset\nway 1 2", ("none", (((), (((2,), 1),)),))), ("none\nset\nrow a 1",
            ("none", (((self.A,), ()),))),
            ("blame 1\nstay 1\nset\nstands 4 5", ("blame", 1, (), (1,), (((), (4, 5)),))),
            ("spared 1\nset\nrow a 1\nstands 1\nset\nway 2 1", ("spared", 1, (), (),
            (((self.A,), (1,)), ((), (((1,), 2),))))),
            (f"spared {FORTY}\nset\nstands {BIG}", ("spared", FORTY, (), (), (((), (BIG,)),))),
        ):
            self.assertEqual(parse_sets(text), told)
            self.assertEqual(parse_sets(format_sets(told)), told)

    def test_problems(self):
        for text, line, column in (
            ("", 2, 1), ("set", 1, 1), ("stands 1", 1, 1), ("none 1", 1, 6), ("none\nrow a 1", 2, 1),
            ("none\nstay", 2, 1), ("blame", 1, 6),
            ("blame x", 1, 7), ("blame 1 1", 1, 9), (f"blame {FORTY + 1}", 1, 7), ("blame 1", 2, 1),
            ("blame 1\nset", 2, 1),
            ("blame 1\nstay 1\nstay 2", 3, 1), ("blame 1\nstay x", 2, 6), ("blame 1\nstay 1\nrow a 1", 3, 1),
            ("blame 1\nrow a", 2, 6),
            ("spared -1", 1, 8), ("spared 1\nstay 1\nrow a 1", 3, 1), ("spared 1\nway 1", 2, 1), ("none\nset 1", 2, 5),
            ("none\nset\nstands x", 3, 8),
            ("none\nset\nstands\nway 1", 4, 1), ("none\nset\nstands\nstands", 4, 1),
            ("none\nset\nway 1\nstands", 4, 1), ("none\nset\nway 1\nrow a 1", 4, 1),
            ("none\nset\nstands 1\nrow a 1", 4, 1), ("none\nset\nway 0", 3, 5), ("none\nset\nrow a", 3, 6),
            ("none\nnone", 2, 1), ("Blame 1", 1, 1),
        ):
            self.wrong(parse_sets, text, line, column)
            self.assertIs(self.agree(parse_sets, "sets", text), False)

    def test_changed_anywhere(self):
        for text in self.TEXTS:
            self.assertGreater(sum(self.agree(parse_sets, "sets", other) for other in changed(text)), 5)

    def test_what_blame_and_sparing_return(self):
        words = set()
        for source, book, question, prices, found in some_cases(91000, 120):
            closed = (), question[1]
            for pair in references.loose_pairs(book, closed, prices)[:3]:
                if raised(blame, book, closed, prices, pair) is None:
                    told = blame(book, closed, prices, pair)
                    self.assertEqual(parse_sets(format_sets(told)), told)
                    self.assertIs(shows_blame(book, closed, prices, pair, parse_sets(format_sets(told))), True)
                    words.add(told[0])
            if found:
                going, staying = source.choice(found), tuple(found[:2])
                if raised(sparing, book, question, prices, going, staying) is None:
                    told = sparing(book, question, prices, going, staying)
                    self.assertEqual(parse_sets(format_sets(told)), told)
                    self.assertIs(shows_spared(book, question, prices, going, staying, parse_sets(format_sets(told))),
                        True)
                    words.add(told[0])
        self.assertEqual(words, {"blame", "none", "spared"})


class JudgesTest(unittest.TestCase):
    def test_claims(self):
        right = 0
        for source, *case in surveys.cases(92000, 60):
            pairs = surveys.open_pairs(*case)
            if surveys.all_least(*case)[0] is None or len(pairs) < 2:
                continue
            for claim, paper in about_row(*case, pairs[0]) + about_rows(*case, *source.sample(pairs, 2)):
                text = format_claim(claim, paper)
                self.assertEqual(parse_claim(text), (claim, paper))
                self.assertIs(judges_claim(*case, text), True)
                for other in source.sample(list(changed(text)), 25):
                    told = judges_claim(*case, other)
                    expected = raised(parse_claim, other) is None and surveys.judge_claim(*case, *parse_claim(other))
                    self.assertIs(told, expected, (case, other))
                    right += told
        self.assertGreater(right, 30)

    def test_orders(self):
        right = 0
        some = [(source, *case) for source, *case in surveys.cases(93000, 60)]
        for needs in (chains(2), chains(1, 1), [(1,), (), (1,)]):
            some.append((references.source_of(len(needs)), net("amb", needs), ((), net_atoms("amb", "xy")),
                net_prices("amb"), None))
        for source, *case in some:
            for order in orders(*case):
                told = order.plain() + order_papers(*case, order)
                text = format_order(told)
                self.assertEqual(parse_order(text), told)
                self.assertIs(judges_order(*case, text), True)
                for other in source.sample(list(changed(text)), 40):
                    expected = raised(parse_order, other) is None and surveys.judge_order(*case, parse_order(other))
                    self.assertIs(judges_order(*case, other), expected, (case, other))
                    right += expected
        self.assertGreater(right, 10)

    def test_roofs(self):
        right = 0
        for source, *case in surveys.moving_cases(94000, 80):
            told = roof(*case)
            text = format_roof(told)
            self.assertEqual(parse_roof(text), told)
            self.assertIs(judges_roof(*case, text), True)
            for other in source.sample(list(changed(text)), 30):
                expected = raised(parse_roof, other) is None and surveys.judge_roof(*case, parse_roof(other))
                self.assertIs(judges_roof(*case, other), expected, (case, other))
                right += expected
        self.assertGreater(right, 20)

    BOOK = {"a": (1, ((1,),)), "b": (1, ((1,),))}
    QUESTION = (), (("a", ("x",)), ("b", ("x",)))

    def all_judges(self, moving, prices):
        yield judges_claim, prices
        yield judges_order, prices
        yield judges_roof, moving

    def test_texts_that_are_none_and_no_texts(self):
        for judge, prices in self.all_judges({"a": (1, 0), "b": (1, 1)}, {"a": 1, "b": 2}):
            for text in ANY_OBJECTS + ["", "\n", "cut 1", "claim", "order", "roof", "claim each a 1", "order\nleast",
                    "roof\nend", b"order"]:
                self.assertIs(judge(self.BOOK, self.QUESTION, prices, None, text), False, shown(text))

    def test_what_they_raise_whatever_the_text_is(self):
        for judge, prices in self.all_judges({"a": (1, 0), "b": (1, 1)}, {"a": 1, "b": 2}):
            for text in ("", "claim", "claim each a 1\nprice 1\nrow a 1", "order\nleast", "roof\nend", "stands 1",
                    None):
                for thing in NEVER_RIGHT:
                    self.assertEqual(raised(judge, self.BOOK, thing, None, "?", text), (NoQuestion, {}))
                    self.assertEqual(raised(judge, self.BOOK, self.QUESTION, thing, "?", text), (NoPrice, {}))
                    if thing is not None:
                        self.assertEqual(raised(judge, self.BOOK, self.QUESTION, prices, thing, text), (NoRow, {}))

    def test_too_many(self):
        many = tuple((k,) for k in range(60))
        book = {"a": (1, many), "b": (1, many), "c": (2, ((0, 0),)), "e": (1, ((0,),))}
        question = (), (("a", ("x",)), ("b", ("y",)), ("c", ("x", "y")), ("e", ("x",)))
        prices, moving = {"a": None, "b": None, "c": None, "e": 1}, {"a": None, "b": None, "c": None, "e": (1, 0)}
        for judge, cost, text in (
            (judges_claim, prices, "claim each e 0\nprice 7\nrow e 0"),
            (judges_order, prices, "order\nrow e 0\nleast\nway 1 0 0"),
            (judges_roof, moving, "roof\nfrom 0 1 1 0\nrow e 0\nend"),
        ):
            self.assertEqual(raised(judge, book, question, cost, None, text), (TooMany, {"limit": 2000}))
            self.assertIs(judge(book, question, cost, None, text + "\nx"), False)
        needs = with_last(chains(7, 4, 4))
        case = net("amb", needs), ((), net_atoms("amb", "xy")), net_prices("amb"), None
        order = orders(*case)[0]
        text = format_order((*order.plain(), tuple(((k, k), 1) for k in range(16)), ()))
        self.assertEqual(raised(judges_order, *case, text), (TooMany, {"limit": 200}))

    def test_arguments_are_kept(self):
        claim, paper = about_row(self.BOOK, self.QUESTION, {"a": 1, "b": 2}, None, ("a", (1,)))[0]
        keeps_arguments(self, format_claim, claim, paper)
        keeps_arguments(self, format_moving, {"a": (1, 0), "b": None})
        for judge, prices in self.all_judges({"a": (1, 0), "b": (1, 1)}, {"a": 1, "b": 2}):
            keeps_arguments(self, judge, self.BOOK, self.QUESTION, prices, None, format_claim(claim, paper))


if __name__ == "__main__":
    unittest.main()
