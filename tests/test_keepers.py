import copy
import unittest

import references
from answercut import keepers
from answercut.books import with_row, without_row
from answercut.claims import about_row, about_rows, shows_claim
from answercut.errors import NameTaken, NoLine, NoMark, NoPrice, NoQuestion, NoRow, NoTable, RowTaken, TooMany
from answercut.keepers import Keeper
from answercut.nets import least_cut, shows_least
from answercut.orders import Order, order_papers, orders, shows_order
from answercut.roofs import need_moving, roof, shows_roof
from answercut.watches import Watch
from helpers import raised, result
from oddities import ANY_OBJECTS, NEVER_RIGHT, shown
from test_orders import chains, net, net_atoms, net_prices, with_last

QUESTION = (), (("a", ("x",)), ("b", ("x", "y")))
TRIANGLE = (), (("r", ("p", "q")), ("s", ("q", "w")), ("t", ("w", "p")), ("u", ("p",)))
SIXTY = tuple((k,) for k in range(60))


def pins_for(pins, prices):
    mine = tuple(pair for pair in sorted(pins) if prices.get(pair[0]) is not None)
    return mine or None


class Model:
    """What a keeper is to tell, by the functions alone; a new one for each state."""

    def __init__(self):
        self.book, self.pins, self.kept, self.moving, self.held, self.notes = {}, set(), [], {}, [], []

    def copied(self):
        other = Model()
        for name, part in vars(self).items():
            setattr(other, name, copy.deepcopy(part))
        return other

    def case(self, name):
        question, prices = next((question, prices) for other, question, prices in self.kept if other == name)
        return self.book, question, prices, pins_for(self.pins, prices)

    def moving_case(self, name):
        book, question, _, _ = self.case(name)
        return book, question, self.moving[name], pins_for(self.pins, self.moving[name])

    def told(self, name):
        told = least_cut(*self.case(name))
        found = None
        if name in self.moving:
            found = roof(*self.moving_case(name))
            found = found[1] if found[0] == "roof" else "stands"
        return told[1:3] if told[0] == "cut" else None, [order.plain() for order in orders(*self.case(name))], found

    def is_right(self, name, what, paper):
        case = self.case(name)
        if what == "orders":
            return len(paper) == len(orders(*case)) and all(shows_order(*case, each) for each in paper)
        if what == "roof":
            return name in self.moving and shows_roof(*self.moving_case(name), paper)
        if what == "least" or paper[0] == "stands":
            return shows_least(*case, paper)
        return all(shows_claim(*case, *each) for each in paper)

    def certificate(self, name, what):
        case = self.case(name)
        if what == "least":
            return least_cut(*case)
        if what == "orders":
            return tuple(order.plain() + order_papers(*case, order) for order in orders(*case))
        if what == "roof":
            return roof(*self.moving_case(name))
        return about_row(*case, *what) if len(what) == 1 else about_rows(*case, *what)

    def settle(self):
        """Raise what least_cut, then what the roofs of the questions raise."""
        for name, _, _ in self.kept:
            least_cut(*self.case(name))
        for name, _, _ in self.kept:
            if name in self.moving:
                roof(*self.moving_case(name))


def named(model, name):
    if not isinstance(name, str) or name not in [other for other, _, _ in model.kept]:
        raise NoQuestion("")


def done(model, deed):
    """The model behind a deed, or what it raises."""
    word, *rest = deed
    model = model.copied()
    if word == "set_table":
        name, width = rest
        if name in model.book:
            raise NameTaken("")
        model.book[name] = (width, ())
        model.notes.append(("table", name, width))
    elif word in ("come", "go", "pin", "unpin"):
        table, row = rest
        if word == "come":
            model.book = with_row(model.book, table, row)
        else:
            less = without_row(model.book, table, row)
            if word == "go":
                model.book = less
            elif word == "pin" and (table, row) in model.pins:
                raise RowTaken("")
            elif word == "unpin" and (table, row) not in model.pins:
                raise NoRow("")
            model.pins = model.pins - {(table, row)} if word != "pin" else model.pins | {(table, row)}
        model.notes.append((word, table, row))
    elif word == "keep":
        name, question, prices = rest
        if name in [other for other, _, _ in model.kept]:
            raise NameTaken("")
        model.kept.append((name, question, prices))
        model.notes.append(("keep", name))
    elif word == "forget":
        named(model, rest[0])
        model.kept = [each for each in model.kept if each[0] != rest[0]]
        model.moving.pop(rest[0], None)
        model.held = [each for each in model.held if each[1] != rest[0]]
        model.notes.append(("forget", rest[0]))
    else:
        hold_or_move(model, word, rest)
    model.settle()
    return model


def hold_or_move(model, word, rest):
    if word == "drop":
        if rest[0] not in [number for number, _, _, _ in model.held]:
            raise NoMark("")
        model.held = [each for each in model.held if each[0] != rest[0]]
        model.notes.append(("drop", rest[0]))
        return
    name = rest[0]
    named(model, name)
    if word == "move":
        if name in model.moving:
            raise NameTaken("")
        need_moving(model.case(name)[1], rest[1])
        model.moving[name] = rest[1]
        model.notes.append(("move", name))
    elif word == "still":
        if name not in model.moving:
            raise NoPrice("")
        del model.moving[name]
        model.notes.append(("still", name))
    else:
        what = rest[1]
        if what == "roof" and name not in model.moving:
            raise NoPrice("")
        paper = model.certificate(name, what)
        if len(model.held) >= 30:
            raise TooMany(30)
        if what == "orders":
            for order in orders(*model.case(name)):
                len(order)
        number = len([note for note in model.notes if note[0] == "hold"])
        model.held.append((number, name, what, paper))
        model.notes.append(("hold", name, what))


def returned(before, behind):
    """What a deed returns by the models ahead of it and behind it."""
    old, new = [[name for name, _, _ in model.kept] for model in (before, behind)]
    turned = []
    for name in [name for name in old if name not in new] + new:
        one = before.told(name) if name in old else None
        other = behind.told(name) if name in new else None
        words = []
        for at, word in enumerate(("cut", "orders", "roof")):
            if at < 2 and (one is None or other is None):
                words.append(word)
            elif (one[at] if one else None) != (other[at] if other else None):
                words.append(word)
        if words:
            turned.append((name, tuple(words)))
    judged = []
    for number, name, what, paper in behind.held:
        if number in [each[0] for each in before.held]:
            right = behind.is_right(name, what, paper)
            if right != before.is_right(name, what, paper):
                judged.append((number, right))
    return turned, judged


class History(unittest.TestCase):
    """A keeper beside a model."""

    def begin(self):
        self.keeper, self.model, self.models = Keeper(), Model(), []
        self.kinds = set()

    def do(self, *deed):
        arguments = copy.deepcopy(deed)
        try:
            behind = done(self.model, deed)
        except Exception as error:
            expected = "raised", type(error), dict(vars(error))
            told = result(getattr(self.keeper, deed[0]), *arguments[1:])
            self.assertEqual(told, expected, deed)
            self.kinds.add((deed[0], type(error).__name__))
        else:
            told = getattr(self.keeper, deed[0])(*arguments[1:])
            self.assertEqual(told, returned(self.model, behind), deed)
            self.models.append(self.model)
            self.model = behind
            self.kinds.add((deed[0], *{word for _, words in told[0] for word in words}))
            self.kinds |= {("judged", right) for _, right in told[1]}
        for argument in arguments:
            if isinstance(argument, dict):
                argument.clear()
        self.compare()

    def back(self, number):
        self.assertIsNone(self.keeper.back(number))
        if number < len(self.models):
            self.model, self.models = self.models[number], self.models[:number]
        self.compare()

    def compare(self):
        keeper, model = self.keeper, self.model
        self.assertEqual((keeper.book_now(), list(keeper.book_now())), (model.book, list(model.book)))
        self.assertEqual(keeper.pinned(), sorted(model.pins))
        expected = [(*each, model.moving.get(each[0])) for each in model.kept]
        self.assertEqual(keeper.questions(), expected)
        self.assertEqual(keeper.notes(), model.notes)
        right = [(*each, model.is_right(*each[1:])) for each in model.held]
        self.assertEqual(keeper.certificates(), right)
        for name, _, _ in model.kept:
            self.assertEqual(keeper.told(name), least_cut(*model.case(name)))
            self.assertEqual(keeper.orders_of(name), orders(*model.case(name)))
            if name in model.moving:
                self.assertEqual(keeper.roof_of(name), roof(*model.moving_case(name)))
            else:
                self.assertEqual(raised(keeper.roof_of, name), (NoPrice, {}))


QUESTIONS = {
    "p": QUESTION,
    "q": ((), (("b", ("x", "y")), ("c", ("y",)))),
    "o": ((), (("a", ("x",)), ("b", ("x", "y")), ("c", ("y",)))),
    "z": ((), (("b", (0, "y")), ("a", ("w",)))),
    "s": ((), (("b", ("x", "y")),)),
    "d": ((), (("b", ("p", "q")), ("d", ("q", "w")), ("e", ("w", "p")), ("a", ("p",)))),
}
WIDTHS = {"a": 1, "b": 2, "c": 1, "d": 2, "e": 2}


class LongHistoryTest(History):
    def some_deed(self, source):
        model = self.model
        word = source.choice(("come",) * 8 + ("go",) * 5 + ("pin", "pin", "unpin", "unpin", "keep", "keep", "forget",
            "move", "move", "still",
                                             "hold", "hold", "hold", "hold", "drop", "set_table"))
        table = source.choice("abcde")
        row = tuple(source.randrange(2) for _ in range(WIDTHS[table]))
        name = source.choice(sorted(QUESTIONS))
        if word in ("go", "pin") and source.random() < 0.8:
            known = [(table, row) for table, (_, rows) in model.book.items() for row in rows]
            table, row = source.choice(known) if known else (table, row)
        if word == "unpin" and model.pins and source.random() < 0.8:
            table, row = source.choice(sorted(model.pins))
        if word in ("come", "go", "pin", "unpin"):
            return word, table, row
        if word == "set_table":
            return word, table, WIDTHS[table]
        if word == "keep":
            return word, name, QUESTIONS[name], references.some_prices(source, QUESTIONS[name])
        if word == "move":
            pairs = {table: source.choice((None, (1, 0), (0, 1), (2, 1), (1, 2))) for table, _ in QUESTIONS[name][1]}
            return word, name, pairs
        if word == "drop":
            return word, source.choice([each[0] for each in model.held] + [40])
        if word in ("still", "forget"):
            return word, name
        what = source.choice(("least", "orders", "orders", "roof", "roof", "row", "row", "rows", "rows"))
        if what in ("row", "rows"):
            known = [pair for pair in references.loose_pairs(model.book, QUESTIONS[name], model.case(name)[2])
                     ] if name in [each[0] for each in model.kept] else []
            many = 1 if what == "row" else 2
            what = tuple(source.sample(known, many)) if len(known) >= many else (("a", (0,)),) * many
        return "hold", name, what

    def test_long_histories(self):
        kinds = set()
        for number in range(30):
            source = references.source_of(number)
            self.begin()
            for table, width in WIDTHS.items():
                self.do("set_table", table, width)
            for _ in range(90):
                if source.random() < 0.05:
                    self.back(source.randint(len(self.models) // 2, len(self.models)))
                else:
                    self.do(*self.some_deed(source))
            kinds |= self.kinds
        told = {kind[0] for kind in kinds if len(kind) == 1 or {*kind} & {"cut", "orders", "roof"}}
        self.assertGreaterEqual(told, {"set_table", "come", "go", "pin", "unpin", "keep", "forget", "move", "still",
            "hold", "drop"})
        self.assertGreaterEqual(kinds, {("judged", True), ("judged", False), ("hold", "NoRow"), ("hold", "NoPrice"),
            ("move", "NoLine")})

    def test_the_same_in_another_order(self):
        """What is told depends on the rows, pins, prices and moving prices alone."""
        for number in range(12):
            source = references.source_of(1000 + number)
            rows = [(table, row) for table in "abc" for row in references.some_book(
                source, ((), (("abc"[0], ("x",)), ("b", ("x", "y")), ("c", ("y",)))), 6, 3)[table][1]]
            pins = [pair for pair in rows if source.random() < 0.2]
            prices = {name: references.some_prices(source, QUESTIONS[name]) for name in "opqz"}
            moving = {name: {table: (source.randint(1, 3), source.randint(0, 3)) for table, _ in QUESTIONS[name][1]}
                      for name in "opq"}
            told = [self.told(references.source_of(k), rows, pins, prices, moving) for k in range(4)]
            for other in told[1:]:
                self.assertEqual(other, told[0])

    def told(self, source, rows, pins, prices, moving):
        keeper = Keeper()
        for table in source.sample("abcde", 5):
            keeper.set_table(table, WIDTHS[table])
        steps = [("come", *pair) for pair in rows] + [("keep", name, QUESTIONS[name], prices[name]) for name in prices]
        for deed in source.sample(steps, len(steps)):
            getattr(keeper, deed[0])(*deed[1:])
            if source.random() < 0.3:
                self.detour(source, keeper)
        steps = [("pin", *pair) for pair in pins] + [("move", name, moving[name]) for name in moving]
        for deed in source.sample(steps, len(steps)):
            getattr(keeper, deed[0])(*deed[1:])
            self.detour(source, keeper)
        return {name: (keeper.told(name), [order.plain() for order in keeper.orders_of(name)],
                       keeper.roof_of(name) if name in moving else None) for name in prices}

    def detour(self, source, keeper):
        """Deeds that are taken back."""
        mark = len(keeper.notes())
        table = source.choice("abc")
        row = tuple(source.randrange(4, 9) for _ in range(WIDTHS[table]))
        keeper.come(table, row)
        if source.random() < 0.5:
            keeper.go(table, row)
        else:
            keeper.pin(table, row)
            keeper.back(mark)


class InterfaceTest(unittest.TestCase):
    def test_the_class_is_defined_in_this_file(self):
        self.assertEqual(Keeper.__module__, keepers.__name__)
        for name in ("set_table come go pin unpin keep forget move still hold drop told orders_of roof_of certificates"
                     " book_now pinned questions notes back").split():
            self.assertIn(name, vars(Keeper))

    def test_example(self):
        keeper = Keeper()
        begun = [keeper.set_table("a", 1), keeper.set_table("b", 2), keeper.come("a", (1,)), keeper.come("b", (1, 5))]
        self.assertEqual(begun, [([], [])] * 4)
        self.assertEqual(keeper.keep("q", QUESTION, {"a": 3, "b": 2}), ([("q", ("cut", "orders"))], []))
        self.assertEqual(keeper.hold("q", "least"), ([], []))
        self.assertEqual(keeper.hold("q", (("b", (1, 5)),)), ([], []))
        self.assertEqual(keeper.move("q", {"a": (3, 0), "b": (2, 1)}), ([("q", ("roof",))], []))
        self.assertEqual(keeper.come("b", (1, 6)), ([("q", ("cut", "orders", "roof"))], [(0, False), (1, False)]))
        self.assertEqual(keeper.roof_of("q")[1], (((0, 1), 3, 0, (("a", (1,)),)),))
        self.assertEqual(keeper.go("b", (1, 6))[1], [(0, True), (1, True)])
        self.assertIsNone(keeper.back(7))
        self.assertEqual(keeper.notes()[5:], [("hold", "q", "least"), ("hold", "q", (("b", (1, 5)),))])


class HeldTest(History):
    def setUp(self):
        self.begin()
        for deed in (("set_table", "a", 1), ("set_table", "b", 2), ("set_table", "c", 1), ("come", "a", (1,)),
                     ("come", "b", (1, 5)), ("come", "c", (5,)), ("keep", "q", QUESTION, {"a": 1, "b": 1})):
            self.do(*deed)

    def numbers(self):
        return [each[0] for each in self.keeper.certificates()]

    def test_numbers(self):
        for what in ("least", "orders", (("a", (1,)),)):
            self.do("hold", "q", what)
        self.assertEqual(self.numbers(), [0, 1, 2])
        self.do("drop", 1)
        self.do("hold", "q", "least")
        self.assertEqual(self.numbers(), [0, 2, 3])
        self.back(8)
        self.assertEqual(self.numbers(), [0])
        self.do("hold", "q", "orders")
        self.assertEqual(self.numbers(), [0, 1])
        self.do("drop", 0)
        self.do("drop", 1)
        self.do("hold", "q", "least")
        self.assertEqual(self.numbers(), [2])

    def test_what_drop_takes(self):
        self.do("hold", "q", "least")
        self.do("hold", "q", "least")
        self.do("drop", 0)
        for thing in [thing for thing in ANY_OBJECTS if not references.same(thing, 1)] + [0, 2]:
            self.assertEqual(raised(self.keeper.drop, thing), (NoMark, {}), shown(thing))
        self.compare()
        self.do("drop", 1)
        self.assertEqual(raised(self.keeper.drop, 1), (NoMark, {}))

    def test_what_hold_raises(self):
        wrong = [thing for thing in ANY_OBJECTS + ["cut", "claim", (("a", (1,)),) * 3, (), [("a", (1,))], ("a", (1,))]]
        for thing in wrong:
            self.assertEqual(raised(self.keeper.hold, "q", thing), (NoRow, {}), shown(thing))
            self.assertEqual(raised(self.keeper.hold, "none", thing), (NoQuestion, {}), shown(thing))
            if thing not in ("q", ("a", (1,))):
                self.assertEqual(raised(self.keeper.hold, thing, "roof"), (NoQuestion, {}), shown(thing))
                self.assertEqual(raised(self.keeper.hold, "q", (thing,)), (NoRow, {}), shown(thing))
                self.assertEqual(raised(self.keeper.hold, "q", (("a", (1,)), thing)), (NoRow, {}), shown(thing))
        self.do("hold", "q", "roof")
        self.do("hold", "q", (("a", (1,)), ("a", (1,))))
        self.do("hold", "q", (("b", (1, 5)),))
        self.do("move", "q", {"a": (1, 0), "b": (0, 1)})
        self.do("hold", "q", "roof")

    def test_thirty(self):
        for _ in range(30):
            self.do("hold", "q", "least")
        self.assertEqual(self.numbers(), list(range(30)))
        too_many = (TooMany, {"limit": 30})
        for what in ("least", "orders", (("a", (1,)),)):
            self.assertEqual(raised(self.keeper.hold, "q", what), too_many)
        self.assertEqual(raised(self.keeper.hold, "q", "roof"), (NoPrice, {}))
        self.assertEqual(raised(self.keeper.hold, "q", (("a", (2,)),)), (NoRow, {}))
        self.assertEqual(raised(self.keeper.hold, "p", "least"), (NoQuestion, {}))
        self.do("drop", 7)
        self.do("hold", "q", "orders")
        self.assertEqual(self.numbers()[-2:], [29, 30])
        self.assertEqual(raised(self.keeper.hold, "q", "least"), too_many)

    def test_more_than_two_hundred_cuts(self):
        keeper = Keeper()
        question, prices = ((), net_atoms("amb", "xy")), net_prices("amb")
        book = net("amb", with_last(chains(7, 4, 4)))
        for table, (width, rows) in book.items():
            keeper.set_table(table, width)
            for row in rows:
                keeper.come(table, row)
        keeper.keep("q", question, prices)
        self.assertEqual(raised(keeper.hold, "q", "orders"), (TooMany, {"limit": 200}))
        self.assertEqual(keeper.certificates(), [])
        keeper.go("a", (15,))
        keeper.hold("q", "orders")
        self.assertEqual(keeper.certificates()[0][4], True)
        mark = len(keeper.notes())
        self.assertEqual(keeper.come("a", (15,)), ([("q", ("cut", "orders"))], [(0, False)]))
        for _ in range(29):
            keeper.hold("q", "least")
        self.assertEqual(raised(keeper.hold, "q", "orders"), (TooMany, {"limit": 30}))
        keeper.back(mark)
        self.assertEqual(keeper.certificates()[0][4], True)

    def test_a_held_roof_behind_still(self):
        self.do("move", "q", {"a": (1, 0), "b": (0, 1)})
        self.do("hold", "q", "roof")
        self.assertEqual(self.keeper.still("q"), ([("q", ("roof",))], [(0, False)]))
        self.assertEqual(self.keeper.certificates()[0][4], False)
        self.assertEqual(raised(self.keeper.roof_of, "q"), (NoPrice, {}))
        self.assertEqual(self.keeper.move("q", {"b": (0, 1), "a": (1, 0)}), ([("q", ("roof",))], [(0, True)]))
        self.assertEqual(self.keeper.still("q")[1], [(0, False)])
        self.assertEqual(self.keeper.move("q", {"a": (2, 0), "b": (0, 1)}), ([("q", ("roof",))], []))

    def test_claims_that_turn(self):
        self.do("hold", "q", (("a", (1,)),))
        self.do("hold", "q", (("a", (1,)),))
        self.assertEqual(self.keeper.come("b", (1, 6)), ([], []))
        self.assertEqual(self.keeper.pin("a", (1,))[1], [(0, False), (1, False)])
        self.assertEqual(self.keeper.unpin("a", (1,))[1], [(0, True), (1, True)])

    def test_orders_of_several_pieces(self):
        both = (), (("a", ("x",)), ("c", ("y",)))
        self.do("keep", "p", both, {"a": 1, "c": 1})
        self.do("hold", "p", "orders")
        self.assertEqual(len(self.keeper.certificates()[0][3]), 2)
        self.do("come", "a", (2,))
        self.assertEqual(self.keeper.certificates()[0][4], False)
        self.do("come", "c", (6,))
        self.do("go", "a", (2,))
        self.do("go", "c", (6,))
        self.assertEqual(self.keeper.certificates()[0][4], True)
        # One order more or less makes it wrong, though what is held is as it was.
        self.do("go", "c", (5,))
        self.assertEqual(self.keeper.certificates()[0][4], False)

    def test_a_way_that_stands_is_held(self):
        self.do("pin", "a", (1,))
        self.do("pin", "b", (1, 5))
        self.do("move", "q", {"a": (1, 0), "b": (1, 0)})
        # An open row of the question, so that about_row tells the way: b 2 5.
        self.do("come", "b", (2, 5))
        for what in ("least", "orders", "roof", (("b", (2, 5)),)):
            self.do("hold", "q", what)
        self.assertEqual([each[3] for each in self.keeper.certificates()],
                         [("stands", (1, 5)), (), ("stands", (1, 5)), ("stands", (1, 5))])
        self.do("unpin", "a", (1,))
        self.assertEqual([each[4] for each in self.keeper.certificates()], [False] * 4)
        self.do("pin", "a", (1,))
        self.assertEqual([each[4] for each in self.keeper.certificates()], [True] * 4)

    def test_another_way_that_stands_turns_nothing(self):
        self.do("keep", "p", ((), (("a", ("x",)),)), {"a": None})
        self.do("move", "p", {"a": None})
        self.assertEqual(self.keeper.told("p"), ("stands", (1,)))
        self.do("come", "a", (0,))
        self.assertEqual((self.keeper.told("p"), self.keeper.roof_of("p")), (("stands", (0,)),) * 2)
        self.assertEqual(self.keeper.go("a", (1,)), ([("q", ("cut", "orders"))], []))
        self.assertEqual(self.keeper.come("a", (2,)), ([], []))
        self.assertEqual(self.keeper.go("a", (0,)), ([], []))
        self.assertEqual(self.keeper.roof_of("p"), ("stands", (2,)))
        self.assertEqual(self.keeper.go("a", (2,)), ([("p", ("cut", "roof"))], []))

    def test_both_claims_are_to_be_right(self):
        self.do("hold", "q", (("a", (1,)),))
        self.assertEqual([claim[0] for claim, _ in self.keeper.certificates()[0][3]], ["each", "some"])
        self.do("come", "b", (7, 7))
        # Behind a pin no table is ruled: some least cut has the row of a, not each.
        self.assertEqual(self.keeper.pin("b", (7, 7)), ([("q", ("orders",))], [(0, False)]))
        _, some = self.keeper.certificates()[0][3]
        question, prices = QUESTION, {"a": 1, "b": 1}
        self.assertIs(shows_claim(self.keeper.book_now(), question, prices, (("b", (7, 7)),), *some), True)

    def test_no_order_is_held(self):
        self.do("go", "a", (1,))
        self.do("hold", "q", "orders")
        self.assertEqual(self.keeper.certificates()[0][3:], ((), True))
        self.do("come", "a", (1,))
        self.assertEqual(self.keeper.certificates()[0][4], False)

    def test_forget_takes_all_with_it(self):
        self.do("keep", "p", QUESTION, {"a": 2, "b": 1})
        self.do("move", "q", {"a": (1, 1), "b": (0, 1)})
        for name in "qpq":
            self.do("hold", name, "least")
        self.assertEqual(self.keeper.forget("q"), ([("q", ("cut", "orders", "roof"))], []))
        self.assertEqual(self.numbers(), [1])
        self.assertEqual(raised(self.keeper.drop, 0), (NoMark, {}))
        self.assertEqual(self.keeper.keep("q", QUESTION, {"a": 1, "b": 1}), ([("q", ("cut", "orders"))], []))
        self.assertEqual(raised(self.keeper.roof_of, "q"), (NoPrice, {}))
        self.assertEqual(self.keeper.hold("q", "least"), ([], []))
        self.assertEqual(self.numbers(), [1, 3])
        self.assertEqual(self.keeper.forget("p"), ([("p", ("cut", "orders"))], []))


class RefusedTest(History):
    def unchanged(self, error, name, *arguments):
        before = self.all_told()
        self.assertEqual(raised(getattr(self.keeper, name), *arguments), error,
            (name, [shown(each) for each in arguments]))
        self.assertEqual(self.all_told(), before)

    def all_told(self):
        keeper = self.keeper
        names = [name for name, _, _, _ in keeper.questions()]
        told = [(keeper.told(name), keeper.orders_of(name), result(keeper.roof_of, name)) for name in names]
        return keeper.book_now(), keeper.pinned(), keeper.questions(), keeper.notes(), keeper.certificates(), told

    def test_as_a_watch(self):
        self.begin()
        watch = Watch()
        deeds = [("set_table", "a", 1), ("come", "a", (1,)), ("pin", "a", (1,)),
            ("keep", "q", ((), (("a", ("x",)),)), {"a": 1})]
        for deed in deeds:
            getattr(watch, deed[0])(*deed[1:])
            self.do(*deed)
        for thing in ANY_OBJECTS:
            for name, arguments in (
                ("set_table", (thing, 1)), ("set_table", ("b", thing)), ("come", (thing, (1,))), ("come", ("a", thing)),
                ("go", (thing, (1,))), ("go", ("a", thing)), ("pin", ("a", thing)), ("unpin", ("a", thing)),
                ("keep", (thing, QUESTION, {})), ("keep", ("p", thing, {})),
                ("keep", ("p", ((), (("a", ("x",)),)), thing)),
                ("forget", (thing,)), ("back", (thing,)), ("told", (thing,)),
            ):
                watched = Watch()
                for deed in deeds:
                    getattr(watched, deed[0])(*deed[1:])
                error = raised(getattr(watched, name), *arguments)
                if error is not None:
                    self.unchanged(error, name, *arguments)
        self.assertEqual(raised(self.keeper.set_table, "a", 0), (NoTable, {}))
        for thing in [thing for thing in ANY_OBJECTS if thing != "q"]:
            for name, arguments in (("move", (thing, None)), ("still", (thing,)), ("told", (thing,)),
                    ("orders_of", (thing,)),
                                    ("roof_of", (thing,)), ("hold", (thing, None))):
                self.unchanged((NoQuestion, {}), name, *arguments)

    def test_move_and_still(self):
        self.begin()
        for deed in (("set_table", "a", 1), ("set_table", "b", 2), ("keep", "q", QUESTION, {"a": 1, "b": None})):
            self.do(*deed)
        for thing in ANY_OBJECTS + [{"a": (1, 1)}, {"a": (1, 1), "b": (0, 0)}, {"a": 1, "b": 2}]:
            self.unchanged((NoPrice, {}), "move", "q", thing)
        self.unchanged((NoPrice, {}), "still", "q")
        self.do("move", "q", {"b": (1, 1), "a": None})
        self.assertEqual(list(self.keeper.questions()[0][3]), ["b", "a"])
        for thing in NEVER_RIGHT + [{"b": (1, 1), "a": None}]:
            self.unchanged((NameTaken, {}), "move", "q", thing)
        self.do("still", "q")
        self.do("move", "q", {"a": None, "b": None})

    def triangle(self):
        self.begin()
        for table in "rst":
            self.do("set_table", table, 2)
            self.do("come", table, (1, 1))
        self.do("set_table", "u", 1)
        self.do("come", "u", (1,))
        self.do("keep", "q", TRIANGLE, {"r": None, "s": 1, "t": 1, "u": 1})

    def test_a_deed_that_is_refused_because_a_roof_raises(self):
        self.triangle()
        # Nothing pinned: u rules r and t, whose line is left; by moving prices u is dearer in one part.
        kind, fields = raised(self.keeper.move, "q", {"r": (1, 1), "s": (1, 1), "t": (1, 1), "u": (1, 2)})
        self.assertEqual((kind, fields["paper"][0]), (NoLine, ("r", "s", "t")))
        self.compare()
        self.do("move", "q", {"r": (1, 1), "s": (1, 1), "t": (1, 1), "u": (1, 1)})
        self.do("hold", "q", "least")
        # r is firm by the prices, so that its pins matter to the roof alone: all of r, s, t stand in the line then.
        kind, fields = raised(self.keeper.pin, "r", (1, 1))
        self.assertEqual((kind, fields["paper"][0]), (NoLine, ("r", "s", "t")))
        self.compare()
        self.do("come", "r", (2, 2))
        self.do("still", "q")
        self.do("pin", "r", (1, 1))
        self.assertEqual(raised(self.keeper.move, "q", dict.fromkeys("rstu", (1, 1)))[0], NoLine)
        self.compare()

    def test_least_cuts_raise_ahead_of_roofs_and_in_the_order_of_the_questions(self):
        self.triangle()
        self.do("move", "q", dict.fromkeys("rstu", (1, 1)))
        self.do("keep", "p", ((), TRIANGLE[1][2::-1] + TRIANGLE[1][3:]), dict.fromkeys("rstu", 1))
        kind, fields = raised(self.keeper.pin, "r", (1, 1))
        self.assertEqual((kind, fields["paper"][0]), (NoLine, ("t", "s", "r")))
        self.compare()
        self.do("forget", "p")
        self.do("keep", "p", ((), TRIANGLE[1][2::-1] + TRIANGLE[1][3:]), {**dict.fromkeys("stu", 1), "r": None})
        self.do("move", "p", dict.fromkeys("rstu", (1, 1)))
        kind, fields = raised(self.keeper.pin, "r", (1, 1))
        self.assertEqual((kind, fields["paper"][0]), (NoLine, ("r", "s", "t")))
        self.do("forget", "q")
        self.do("keep", "q", TRIANGLE, {**dict.fromkeys("stu", 1), "r": None})
        self.do("move", "q", dict.fromkeys("rstu", (1, 1)))
        kind, fields = raised(self.keeper.pin, "r", (1, 1))
        self.assertEqual((kind, fields["paper"][0]), (NoLine, ("t", "s", "r")))

    def test_too_many_ways(self):
        self.begin()
        for table in "ab":
            self.keeper.set_table(table, 2)
            for k in range(45 if table == "a" else 44):
                self.keeper.come(table, (1, k))
        keeper = self.keeper
        keeper.keep("q", ((), (("a", ("x", "y")), ("b", ("x", "z")))), {"a": 1, "b": 1})
        mark = len(keeper.notes())
        keeper.come("b", (2, 0))
        self.assertEqual(raised(keeper.come, "b", (1, 44)), (TooMany, {"limit": 2000}))
        self.assertEqual(len(keeper.notes()), mark + 1)
        self.assertEqual(keeper.told("q")[1], 44)

    def test_back(self):
        self.begin()
        for deed in (("set_table", "a", 1), ("set_table", "b", 2), ("come", "a", (1,)),
                ("keep", "q", QUESTION, {"a": 1, "b": 1}),
                     ("move", "q", {"a": (1, 1), "b": (0, 1)}), ("hold", "q", "roof"), ("come", "b", (1, 1)),
                     ("still", "q"),
                     ("drop", 0), ("forget", "q")):
            self.do(*deed)
        for thing in [thing for thing in ANY_OBJECTS if not isinstance(thing, int) or isinstance(thing, bool)] + [-1,
                11, 10 ** 40]:
            self.unchanged((NoMark, {}), "back", thing)
        for number in (10, 10, 9, 7, 4, 4, 1, 0, 0):
            self.back(number)
        self.assertEqual(self.keeper.notes(), [])

    def test_what_is_returned_is_new(self):
        self.begin()
        for deed in (("set_table", "a", 1), ("set_table", "b", 2), ("come", "a", (1,)), ("come", "b", (1, 1)),
                     ("keep", "q", QUESTION, {"a": 1, "b": 1}), ("move", "q", {"a": (1, 1), "b": (0, 1)}),
                     ("hold", "q", "roof")):
            self.do(*deed)
        keeper = self.keeper
        keeper.book_now().clear()
        keeper.pinned().append(1)
        keeper.questions()[0][2].clear()
        keeper.questions()[0][3].clear()
        keeper.questions().clear()
        keeper.notes().clear()
        keeper.certificates().clear()
        keeper.orders_of("q").clear()
        keeper.orders_of("q")[0].first = None
        self.compare()
        self.assertIsInstance(keeper.orders_of("q")[0], Order)


if __name__ == "__main__":
    unittest.main()
