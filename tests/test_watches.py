import unittest

import references
from answercut import watches
from answercut.blame import blame
from answercut.errors import (
    AnswerError, NameTaken, NoLine, NoMark, NoPrice, NoQuestion, NoRow, NoTable, RowTaken, TooMany,
)
from answercut.nets import least_cut, shows_least
from answercut.watches import Watch
from helpers import raised, result
from oddities import ANY_OBJECTS

TRIANGLE_ATOMS = (("r", ("p", "q")), ("s", ("q", "w")), ("t", ("w", "p")))
QUESTION = ((), (("a", ("x",)), ("b", ("x", "y"))))
PRICES = {"a": 3, "b": 1}


class Book:
    """What a watch is to hold, kept by the test in its own plain way."""

    def __init__(self):
        self.tables = {}
        self.pins = set()
        self.kept = []
        self.deeds = []

    def copy(self):
        other = Book()
        other.tables = {table: (width, set(rows)) for table, (width, rows) in self.tables.items()}
        other.pins, other.kept, other.deeds = set(self.pins), list(self.kept), list(self.deeds)
        return other

    def now(self):
        return {table: (width, tuple(sorted(rows))) for table, (width, rows) in self.tables.items()}

    def pinned_of(self, prices):
        mine = tuple(sorted(pair for pair in self.pins if prices.get(pair[0]) is not None))
        return mine or None

    def told(self):
        """What least_cut tells of each question; raises what it raises for the first one."""
        return {name: least_cut(self.now(), question, prices, self.pinned_of(prices))
                for name, question, prices in self.kept}

    def do(self, deed):
        """Do a deed that is not wrong in itself."""
        kind, first, *rest = deed
        if kind == "table":
            self.tables[first] = (rest[0], set())
        elif kind == "come":
            self.tables[first][1].add(rest[0])
        elif kind == "go":
            self.tables[first][1].discard(rest[0])
            self.pins.discard((first, rest[0]))
        elif kind == "pin":
            self.pins.add((first, rest[0]))
        elif kind == "unpin":
            self.pins.discard((first, rest[0]))
        elif kind == "keep":
            self.kept.append((first, rest[0], rest[1]))
        else:
            self.kept = [each for each in self.kept if each[0] != first]
        self.deeds.append(deed[:2] if kind == "keep" else deed)

    def refusal(self, deed):
        """The kind of error with which a deed is refused by itself, None if it is not."""
        kind, first, *rest = deed
        if kind == "table":
            return NameTaken if first in self.tables else TooMany if len(self.tables) > 7 else None
        if kind == "keep":
            if first in [name for name, _, _ in self.kept]:
                return NameTaken
            fits = all(table in self.tables and self.tables[table][0] == len(parts) for table, parts in rest[0][1])
            if rest[0][0] or not fits:
                return NoQuestion
            if set(rest[1]) != {table for table, _ in rest[0][1]}:
                return NoPrice
            return TooMany if len(self.kept) > 7 else None
        if kind == "forget":
            return None if first in [name for name, _, _ in self.kept] else NoQuestion
        if first not in self.tables:
            return NoTable
        width, rows = self.tables[first]
        if len(rest[0]) != width:
            return NoRow
        if kind == "come":
            return RowTaken if rest[0] in rows else TooMany if len(rows) > 59 else None
        if rest[0] not in rows:
            return NoRow
        pinned = (first, rest[0]) in self.pins
        if kind == "pin":
            return RowTaken if pinned else None
        return NoRow if kind == "unpin" and not pinned else None


def do(watch, deed):
    kind, *rest = deed
    return getattr(watch, {"table": "set_table"}.get(kind, kind))(*rest)


def gist(told):
    return told[1:3] if told[0] == "cut" else None


def some_deed(source, book):
    """A deed, often one that can be done."""
    tables = list(book.tables) + ["a", "zz"]
    table = source.choice(tables)
    width, rows = book.tables.get(table, (1, set()))
    row = tuple(source.randrange(3) for _ in range(width if source.random() < 0.97 else 2))
    if rows and source.random() < 0.6:
        row = source.choice(sorted(rows))
    name = source.choice(["q", "q1", "w", "v", "u"])
    roll = source.random()
    if roll < 0.08:
        return "table", source.choice("abcdefgh"), source.randint(1, 2)
    if roll < 0.18 and book.tables:
        some = source.sample(sorted(book.tables), source.randint(1, min(3, len(book.tables))))
        atoms = tuple((each, tuple(source.choice(("x", "y", "z", 1)) for _ in range(book.tables[each][0]))) for each in some)
        prices = {each: source.choice((None, 1, 2, 3)) for each in sorted(some, key=lambda _: source.random())}
        if source.random() < 0.05:
            prices["a"] = 1
        return "keep", name, ((), atoms), prices
    if roll < 0.21:
        return "forget", name
    if roll < 0.70:
        return "come", table, tuple(source.randrange(3) for _ in range(width))
    return source.choice((("go", table, row), ("pin", table, row), ("pin", table, row), ("unpin", table, row)))


class InterfaceTest(unittest.TestCase):
    methods = (
        "set_table", "come", "go", "pin", "unpin", "keep", "forget", "told", "blame_of", "book_now", "pinned", "questions",
        "notes", "back",
    )

    def test_methods_are_defined_in_the_class(self):
        self.assertEqual(Watch.__module__, watches.__name__)
        self.assertTrue(all(method in vars(Watch) for method in self.methods))

    def test_example(self):
        watch = Watch()
        begun = [watch.set_table("a", 1), watch.set_table("b", 2), watch.come("a", (1,)), watch.come("b", (1, 5))]
        kept = watch.keep("q", QUESTION, PRICES)
        told = [begun, kept, watch.told("q"), watch.come("b", (1, 6)), watch.pin("a", (1,)), watch.told("q")[:3],
                watch.back(6), watch.pinned(), watch.notes()[4:]]
        self.assertEqual(told, [
            [[], [], [], []], ["q"], ("cut", 1, (("b", (1, 5)),), (((1, 5), 1),)), ["q"], [],
            ("cut", 2, (("b", (1, 5)), ("b", (1, 6)))), None, [], [("keep", "q"), ("come", "b", (1, 6))],
        ])


class HistoryTest(unittest.TestCase):
    def agrees(self, watch, book, told):
        self.assertEqual(watch.book_now(), book.now())
        self.assertEqual(list(watch.book_now()), list(book.tables))
        self.assertEqual(watch.pinned(), sorted(book.pins))
        self.assertEqual(watch.questions(), book.kept)
        self.assertEqual([list(prices) for _, _, prices in watch.questions()], [list(prices) for _, _, prices in book.kept])
        self.assertEqual(watch.notes(), book.deeds)
        for name, question, prices in book.kept:
            self.assertEqual(gist(watch.told(name)), gist(told[name]))
            self.assertIs(shows_least(book.now(), question, prices, book.pinned_of(prices), watch.told(name)), True)

    def turned(self, before, behind):
        gone = [name for name in before if name not in behind]
        return gone + [name for name in behind if name not in before or gist(before[name]) != gist(behind[name])]

    def run_history(self, number, many, turns):
        source = references.source_of(number)
        watch, book, told = Watch(), Book(), {}
        states = [book.copy()]
        for _ in range(many):
            if source.random() < 0.03:
                mark = source.randint(0, len(book.deeds))
                self.assertIsNone(watch.back(mark))
                states = states[:mark + 1]
                book = states[-1].copy()
                told = book.told()
            else:
                deed = some_deed(source, book)
                later, error = book.copy(), book.refusal(deed)
                if error is None:
                    later.do(deed)
                    error = (raised(later.told) or (None,))[0]
                if error is None:
                    expected = self.turned(told, later.told())
                    self.assertEqual(do(watch, deed), expected, (book.deeds, deed))
                    book, told = later, later.told()
                    states.append(book.copy())
                    turns[deed[0]] = turns.get(deed[0], 0) + (expected != [])
                else:
                    self.assertEqual(raised(do, watch, deed)[0], error, (book.deeds, deed))
                    turns[error] = turns.get(error, 0) + 1
            self.agrees(watch, book, told)
        return watch, book

    def test_long_histories(self):
        turns = {}
        for number in range(25):
            watch, book = self.run_history(number, 150, turns)
            self.again(references.source_of(number), watch, book)
        for kind in ("come", "go", "pin", "unpin", "keep", "forget", NameTaken, NoTable, NoRow, RowTaken, NoQuestion):
            self.assertGreater(turns.get(kind, 0), 3, (kind, turns))

    def again(self, source, watch, book):
        """A new watch with the same rows, pins and questions in another order tells the same."""
        other = Watch()
        deeds = [("come", table, row) for table, (_, rows) in book.tables.items() for row in rows]
        deeds += [("keep", name, question, dict(list(prices.items())[::-1])) for name, question, prices in book.kept]
        source.shuffle(deeds)
        for table, (width, _) in sorted(book.tables.items(), reverse=True):
            other.set_table(table, width)
        for deed in deeds + [("pin", table, row) for table, row in source.sample(sorted(book.pins), len(book.pins))]:
            do(other, deed)
        self.assertEqual(other.pinned(), watch.pinned())
        for name, _, _ in book.kept:
            self.assertEqual(other.told(name), watch.told(name))

    def test_going_back(self):
        watch = Watch()
        seen = []
        deeds = [("table", "a", 1), ("table", "b", 2), ("keep", "q", QUESTION, PRICES), ("come", "a", (1,)),
                 ("come", "b", (1, 5)), ("pin", "b", (1, 5)), ("keep", "w", QUESTION, {"b": 7, "a": None}),
                 ("come", "b", (1, 6)), ("unpin", "b", (1, 5)), ("forget", "q"), ("go", "b", (1, 5))]

        def all_of():
            names = [name for name, _, _ in watch.questions()]
            return (watch.book_now(), watch.pinned(), watch.questions(), watch.notes(), [watch.told(name) for name in names])

        for deed in deeds:
            seen.append(all_of())
            do(watch, deed)
        seen.append(all_of())
        for mark in range(len(deeds), -1, -1):
            self.assertIsNone(watch.back(mark))
            self.assertEqual(all_of(), seen[mark])
        for mark, deed in enumerate(deeds):
            self.assertEqual(all_of(), seen[mark])
            do(watch, deed)
        self.assertIsNone(watch.back(4))
        self.assertEqual(raised(watch.back, 5)[0], NoMark)
        self.assertEqual(do(watch, ("come", "b", (1, 9))), ["q"])
        self.assertEqual(watch.notes(), [("table", "a", 1), ("table", "b", 2), ("keep", "q"), ("come", "a", (1,)),
                                         ("come", "b", (1, 9))])

    def test_wrong_marks(self):
        watch = Watch()
        watch.set_table("a", 1)
        for mark in ANY_OBJECTS + [2, -1, True, False, "1"]:
            if mark not in (0, 1) or isinstance(mark, bool):
                self.assertEqual(raised(watch.back, mark)[0], NoMark)
                self.assertEqual(watch.notes(), [("table", "a", 1)])

    def test_rows_that_come_and_go(self):
        """Point 19: what rows that come and go may change, nothing being pinned."""
        for number in range(60):
            source = references.source_of(number)
            question = references.some_question(source, 3)
            book = references.some_book(source, question, 5, 2)
            prices = references.some_prices(source, question)
            watch = Watch()
            for table, (width, rows) in book.items():
                watch.set_table(table, width)
            watch.keep("q", question, prices) if raised(least_cut, book, question, prices, None) is None else None
            for _ in range(40 if watch.questions() else 0):
                self.one_change(source, watch, question, prices)

    def one_change(self, source, watch, question, prices):
        before, told = watch.book_now(), watch.told("q")
        table = source.choice(sorted(before))
        row = tuple(source.randrange(2) for _ in range(before[table][0]))
        comes = row not in before[table][1]
        turned = watch.come(table, row) if comes else watch.go(table, row)
        behind, now = watch.book_now(), watch.told("q")
        price, then = [each[1] if each[0] == "cut" else None for each in (told, now)]
        larger = behind if comes else before
        if prices[table] is not None:
            self.assertEqual(price is None, then is None)
            if price is not None:
                self.assertTrue(0 <= (then - price if comes else price - then) <= prices[table])
        if not any((table, row) in references.rows_of(question, way) for way in references.ways(larger, question)):
            self.assertEqual(gist(told), gist(now))
            self.assertEqual(turned, [])
        if not comes and told[0] == "cut" and (table, row) in told[2]:
            self.assertEqual(now[2], tuple(pair for pair in told[2] if pair != (table, row)))


class RefusalTest(unittest.TestCase):
    def setUp(self):
        self.watch = Watch()
        self.watch.set_table("a", 1)
        self.watch.set_table("b", 2)
        self.watch.come("a", (1,))
        self.watch.come("b", (1, 5))
        self.watch.come("b", (1, 6))
        self.watch.pin("b", (1, 6))
        self.watch.keep("q", QUESTION, PRICES)

    def all_of(self):
        watch = self.watch
        return watch.book_now(), watch.pinned(), watch.questions(), watch.notes(), watch.told("q")

    def refuse(self, kind, method, *arguments):
        before = self.all_of()
        error = raised(getattr(self.watch, method), *arguments)
        self.assertIsNotNone(error, (method, arguments))
        self.assertIs(error[0], kind, (method, arguments))
        self.assertEqual(self.all_of(), before)
        return error[1]

    def test_tables(self):
        for name in ANY_OBJECTS:
            if name not in ("a", "a1", "abcdefgh", "table"):
                self.refuse(NoTable, "set_table", name, 1)
        for width in ANY_OBJECTS + [7]:
            if width not in (1, 6) or width is True:
                self.refuse(NoTable, "set_table", "c", width)
                self.refuse(NoTable, "set_table", "a", width)
        self.refuse(NameTaken, "set_table", "a", 1)
        self.refuse(NameTaken, "set_table", "b", 6)
        for table in "cdefgh":
            self.watch.set_table(table, 6)
        self.assertEqual(self.refuse(TooMany, "set_table", "i", 1), {"limit": 8})
        self.refuse(NameTaken, "set_table", "h", 1)
        self.refuse(NoTable, "set_table", "I", 1)

    def test_rows(self):
        for method in ("come", "go", "pin", "unpin"):
            for table in ANY_OBJECTS + ["c"]:
                if table != "a":
                    self.refuse(NoTable, method, table, (9, 9, 9))
            for row in ANY_OBJECTS + [[1], (1, 5), (True,)]:
                if row != (1,) or isinstance(row, list) or row[0] is True:
                    self.refuse(NoRow, method, "a", row)
        self.refuse(RowTaken, "come", "a", (1,))
        for method in ("go", "pin", "unpin"):
            self.refuse(NoRow, method, "a", (2,))
        self.refuse(RowTaken, "pin", "b", (1, 6))
        self.refuse(NoRow, "unpin", "b", (1, 5))
        for k in range(59):
            self.watch.come("a", (100 + k,))
        self.assertEqual(self.refuse(TooMany, "come", "a", (2,)), {"limit": 60})
        self.refuse(RowTaken, "come", "a", (100,))
        self.watch.go("a", (100,))
        self.assertEqual(self.watch.come("a", (2,)), [])

    def test_questions(self):
        for name in ANY_OBJECTS:
            if name not in ("a", "a1", "abcdefgh", "table"):
                self.refuse(NoQuestion, "keep", name, QUESTION, PRICES)
            self.refuse(NoQuestion, "forget", name)
            self.refuse(NoQuestion, "told", name)
            self.refuse(NoQuestion, "blame_of", name, None)
        self.refuse(NameTaken, "keep", "q", None, None)
        self.refuse(NameTaken, "keep", "q", QUESTION, PRICES)
        for question in ANY_OBJECTS + [(("x",), QUESTION[1]), ((), (("c", ("x",)),)), ((), (("a", ("x", "y")),))]:
            if question != ((), (("a", (1,)),)):
                self.refuse(NoQuestion, "keep", "w", question, None)
        for prices in ANY_OBJECTS + [{"a": 1}, {"a": 1, "b": 0}, {"a": 1, "b": 1, "c": 1}]:
            self.refuse(NoPrice, "keep", "w", QUESTION, prices)
        for k in range(7):
            self.assertEqual(self.watch.keep(f"q{k}", QUESTION, PRICES), [f"q{k}"])
        self.assertEqual(self.refuse(TooMany, "keep", "w", QUESTION, PRICES), {"limit": 8})
        self.refuse(NoPrice, "keep", "w", QUESTION, {})
        self.refuse(NoQuestion, "keep", "w", None, PRICES)
        self.refuse(NameTaken, "keep", "q3", None, PRICES)
        self.assertEqual(self.watch.forget("q3"), ["q3"])
        self.assertEqual(self.watch.keep("q3", QUESTION, PRICES), ["q3"])
        self.assertEqual([name for name, _, _ in self.watch.questions()], ["q", "q0", "q1", "q2", "q4", "q5", "q6", "q3"])

    def test_the_eighth_question_goes_ahead_of_its_line(self):
        for table, (_, parts) in zip("rst", TRIANGLE_ATOMS):
            self.watch.set_table(table, 2)
        triangle, prices = ((), TRIANGLE_ATOMS), dict.fromkeys("rst", 1)
        self.assertEqual(self.refuse(NoLine, "keep", "w", triangle, prices)["paper"][0], ("r", "s", "t"))
        for k in range(7):
            self.watch.keep(f"q{k}", QUESTION, PRICES)
        self.refuse(TooMany, "keep", "w", triangle, prices)

    def test_no_line_once_rows_are_pinned(self):
        for table in "rst":
            self.watch.set_table(table, 2)
            self.watch.come(table, (1, 1))
        self.watch.set_table("u", 1)
        self.watch.come("u", (1,))
        self.watch.keep("w", ((), TRIANGLE_ATOMS + (("u", ("p",)),)), dict.fromkeys("rstu", 2))
        for table in "rst":
            self.assertEqual(self.refuse(NoLine, "pin", table, (1, 1))["paper"][0], ("r", "s", "t"))
        self.refuse(NoLine, "pin", "u", (1,))
        self.watch.forget("w")
        self.assertEqual(self.watch.pin("u", (1,)), [])
        self.refuse(NoLine, "keep", "w", ((), TRIANGLE_ATOMS + (("u", ("p",)),)), dict.fromkeys("rstu", 2))
        # A pin of a firm row is none of the question's.
        self.assertEqual(self.watch.keep("w", ((), TRIANGLE_ATOMS + (("u", ("p",)),)),
                                         {"r": 2, "s": 2, "t": None, "u": None}), ["w"])

    def test_a_question_that_gets_too_large(self):
        watch = self.watch
        for table in "cde":
            watch.set_table(table, 1 if table != "e" else 2)
        watch.keep("w", ((), (("c", ("x",)), ("d", ("y",)), ("e", ("x", "y")))), {"c": 1, "d": 1, "e": 1})
        for k in range(40):
            watch.come("c", (k,))
        for k in range(50):
            self.assertEqual(watch.come("d", (k,)), [])
        self.assertEqual(self.refuse(TooMany, "come", "d", (50,)), {"limit": 2000})
        self.assertEqual(self.refuse(TooMany, "come", "c", (40,)), {"limit": 2000})
        self.assertEqual(watch.come("e", (0, 0)), ["w"])
        watch.forget("w")
        self.assertEqual(watch.come("d", (50,)), [])

    def test_errors_in_the_order_the_questions_came(self):
        watch = self.watch
        for table in "rst":
            watch.set_table(table, 2)
        watch.set_table("u", 1)
        first = ((), TRIANGLE_ATOMS + (("u", ("p",)),))
        second = ((), TRIANGLE_ATOMS[::-1] + (("u", ("p",)),))
        watch.come("u", (1,))
        watch.keep("v", second, dict.fromkeys("rstu", 1))
        watch.keep("w", first, dict.fromkeys("rstu", 1))
        self.assertEqual(self.refuse(NoLine, "pin", "u", (1,))["paper"][0], ("t", "s", "r"))
        watch.forget("v")
        self.assertEqual(self.refuse(NoLine, "pin", "u", (1,))["paper"][0], ("r", "s", "t"))


class ToldTest(unittest.TestCase):
    def filled(self):
        watch = Watch()
        watch.set_table("a", 1)
        watch.set_table("b", 2)
        for row in ((1,), (2,)):
            watch.come("a", row)
        for row in ((1, 5), (1, 6), (2, 5)):
            watch.come("b", row)
        return watch

    def test_pins_of_a_question(self):
        watch = self.filled()
        watch.keep("q", QUESTION, {"a": 9, "b": 2})
        watch.keep("w", QUESTION, {"a": 9, "b": None})
        watch.keep("v", ((), (("a", ("x",)),)), {"a": 1})
        self.assertEqual(watch.pin("b", (1, 5)), ["q"])
        self.assertEqual(watch.pinned(), [("b", (1, 5))])
        book = watch.book_now()
        self.assertEqual(watch.told("q"), least_cut(book, QUESTION, {"a": 9, "b": 2}, (("b", (1, 5)),)))
        self.assertEqual(watch.told("w"), least_cut(book, QUESTION, {"a": 9, "b": None}, None))
        self.assertEqual(watch.told("v"), least_cut(book, ((), (("a", ("x",)),)), {"a": 1}, None))
        self.assertEqual(watch.pin("a", (1,)), ["q", "w", "v"])
        self.assertEqual([watch.told(name)[0] for name in "qwv"], ["stands", "stands", "stands"])
        self.assertEqual(watch.go("b", (1, 5)), ["q"])
        self.assertEqual(watch.pinned(), [("a", (1,))])
        self.assertEqual(watch.come("b", (1, 5)), ["q"])
        self.assertEqual(watch.pinned(), [("a", (1,))])

    def test_what_turned(self):
        watch = self.filled()
        self.assertEqual(watch.keep("q", QUESTION, {"a": 9, "b": 2}), ["q"])
        self.assertEqual(watch.keep("v", ((), (("a", ("x",)), ("b", (3, "y")))), {"a": 9, "b": 1}), ["v"])
        self.assertEqual(watch.keep("w", QUESTION, {"a": 1, "b": 2}), ["w"])
        self.assertEqual(watch.come("b", (2, 7)), ["q"])
        self.assertEqual(watch.come("b", (4, 7)), [])
        self.assertEqual(watch.come("a", (4,)), ["q", "w"])
        self.assertEqual(watch.come("b", (3, 3)), ["v"])
        self.assertEqual(watch.come("b", (3, 4)), ["v"])
        self.assertEqual(watch.forget("q"), ["q"])
        self.assertEqual(watch.pin("b", (4, 7)), [])
        self.assertEqual(watch.set_table("c", 3), [])
        self.assertEqual(watch.unpin("b", (4, 7)), [])

    def test_the_cut_turns_where_the_price_does_not(self):
        watch = Watch()
        watch.set_table("a", 1)
        watch.set_table("b", 1)
        watch.come("a", (1,))
        watch.come("b", (1,))
        watch.keep("q", ((), (("a", ("x",)), ("b", ("x",)))), {"a": 1, "b": 1})
        self.assertEqual(watch.told("q")[1:3], (1, (("a", (1,)),)))
        self.assertEqual(watch.pin("a", (1,)), ["q"])
        self.assertEqual(watch.told("q")[1:3], (1, (("b", (1,)),)))
        self.assertEqual(watch.pin("b", (1,)), ["q"])
        self.assertEqual(watch.told("q"), ("stands", (1,)))
        self.assertEqual(watch.come("a", (2,)), [])
        self.assertEqual(watch.unpin("a", (1,)), ["q"])

    def test_blame_whatever_is_pinned(self):
        watch = self.filled()
        prices = {"a": 9, "b": 2}
        watch.keep("q", QUESTION, prices)
        watch.keep("w", ((), QUESTION[1][::-1]), {"a": 1, "b": None})
        self.assertEqual(watch.blame_of("w", ("a", (2,)))[:2], ("blame", 1))
        self.assertEqual(raised(watch.blame_of, "w", ("b", (2, 5)))[0], NoRow)
        for pins in ((), (("a", (1,)), ("b", (2, 5)))):
            for table, row in pins:
                watch.pin(table, row)
            for pair in (("a", (1,)), ("b", (1, 6)), ("b", (2, 5))):
                self.assertEqual(watch.blame_of("q", pair), blame(watch.book_now(), QUESTION, prices, pair))
            for pair in ANY_OBJECTS + [("c", (1,)), ("a", (3,))]:
                self.assertEqual(result(watch.blame_of, "q", pair), result(blame, watch.book_now(), QUESTION, prices, pair))
            self.assertEqual(raised(watch.blame_of, "v", None)[0], NoQuestion)

    def test_what_is_told_may_be_changed(self):
        watch = self.filled()
        prices = {"b": 2, "a": 9}
        watch.keep("q", QUESTION, prices)
        prices["a"] = 1
        prices["c"] = 5
        watch.book_now().clear()
        watch.pinned().append(1)
        watch.notes().clear()
        watch.questions().clear()
        watch.questions()[0][2].clear()
        self.assertEqual(watch.questions(), [("q", QUESTION, {"b": 2, "a": 9})])
        self.assertEqual(list(watch.questions()[0][2]), ["b", "a"])
        self.assertEqual(watch.pinned(), [])
        self.assertEqual(len(watch.notes()), 8)
        self.assertEqual(len(watch.book_now()["b"][1]), 3)
        watch.come("b", (2, 6))
        self.assertEqual(watch.told("q")[1], 8)

    def test_two_watches_have_nothing_in_common(self):
        one, other = self.filled(), Watch()
        self.assertEqual(other.book_now(), {})
        self.assertEqual((other.notes(), other.pinned(), other.questions()), ([], [], []))
        self.assertEqual(len(one.notes()), 7)

    def test_all_errors_are_of_the_package(self):
        watch = Watch()
        for method, arguments in (("come", ("a", (1,))), ("forget", ("q",)), ("back", (1,)), ("told", ("q",))):
            self.assertTrue(issubclass(raised(getattr(watch, method), *arguments)[0], AnswerError))


if __name__ == "__main__":
    unittest.main()
