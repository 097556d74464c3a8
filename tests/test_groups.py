import copy
import itertools
import unittest

import references
import surveys
from answercut import groups
from answercut.errors import NoAnswer, NoLine, NoPrice, NoQuestion, TooMany
from answercut.groups import all_gone, any_gone, shows_any, shows_spared, sparing, together
from answercut.lines import shows_triad
from answercut.nets import least_cut, shows_least
from answercut.questions import put_answer
from changes import some_changes
from helpers import keeps_arguments, raised
from oddities import ANY_OBJECTS, NEVER_RIGHT, shown

BOOK = {"a": (2, ((1, 5), (2, 5), (2, 6))), "b": (1, ((5,), (6,)))}
QUESTION = (("x",), (("a", ("x", "y")), ("b", ("y",))))
PRICES = {"a": 2, "b": 3}
SIXTY = tuple((k,) for k in range(60))
LARGE = {"a": (1, SIXTY), "b": (1, SIXTY), "c": (2, ((0, 0),))}
LARGE_QUESTION = (("x",), (("a", ("x",)), ("b", ("y",)), ("c", ("x", "y"))))
# Each answer has a told cut, all of one have the triad r, s, t: point 31.
LINKED = (("w",), (("r", ("x", "y")), ("s", ("y", "z")), ("t", ("z", "x")), ("u", ("x", "w"))))
LINKED_BOOK = {"r": (2, ((1, 1),)), "s": (2, ((1, 1),)), "t": (2, ((1, 1),)), "u": (2, ((1, 4), (1, 5)))}


def limit(number):
    return TooMany, {"limit": number}


def some_cases(first, many, most_rows=5):
    """Small questions with head names, books, prices, and their answers."""
    for number in range(first, first + many):
        source = references.source_of(number)
        _, atoms = references.some_question(source, 3)
        names = references.names_of(((), atoms))
        if not names:
            continue
        question = tuple(source.sample(names, source.randint(1, min(2, len(names))))), atoms
        book = references.some_book(source, question, most_rows, 2)
        prices = references.some_prices(source, question, 3, 0.3)
        if len(references.loose_pairs(book, question, prices)) < 11:
            yield source, book, question, prices, references.answers(book, question)


def left(book, question, rows):
    return references.answers(references.lost(book, rows), question)


def least_set(book, question, prices, right):
    """The least price of a set of loose rows behind which the answers that are left are right, None if there is none."""
    best = None
    for rows in surveys.all_sets(references.loose_pairs(book, question, prices)):
        price = references.price_of(prices, rows)
        if (best is None or price < best) and right(left(book, question, rows)):
            best = price
    return best


def choice_sets(book, question, prices, staying):
    """Point 32: all different sets F, ascending, and the numbers of the sets of each answer."""
    each = []
    for answer in staying:
        closed = references.put_answer(question, answer)
        each.append({
            tuple(sorted(pair for pair in references.rows_of(closed, way) if prices[pair[0]] is not None))
            for way in references.ways(book, closed)
        })
    joined = {tuple(sorted(set(itertools.chain(*chosen)))) for chosen in itertools.product(*each)}
    return sorted(joined), [len(sets) for sets in each]


def judge_spared(book, question, prices, going, staying, thing):
    """Point 32; any objects as what is judged."""
    closed = references.put_answer(question, going)
    sets, _ = choice_sets(book, question, prices, staying)
    if type(thing) is not tuple or len(thing) not in (2, 5):
        return False
    papers = thing[-1]
    if type(papers) is not tuple or not all(type(paper) is tuple and len(paper) == 2 for paper in papers):
        return False
    if not references.same(tuple(paper[0] for paper in papers), tuple(sets)):
        return False
    if len(thing) == 2:
        known = references.ways(book, closed)
        return references.same(thing[0], "none") and all(
            any(references.same(way, one) for one in known) and references.stands(closed, prices, rows, way)
            for rows, way in papers
        )
    word, price, rows, ways, _ = thing
    if not references.same(word, "spared") or not references.is_integer(price):
        return False
    if not references.are_pairs(rows, references.loose_pairs(book, question, prices)):
        return False
    less = references.lost(book, rows)
    if price != references.price_of(prices, rows) or references.ways(less, closed):
        return False
    if type(ways) is not tuple or len(ways) != len(staying):
        return False
    for answer, way in zip(staying, ways):
        known = references.ways(less, references.put_answer(question, answer))
        if not any(references.same(way, one) for one in known):
            return False
    return all(
        references.are_amounts(book, closed, prices, kept, amounts) and sum(amount for _, amount in amounts) >= price
        and all(amount < 10 ** 40 for _, amount in amounts) for kept, amounts in papers
    )


class InterfaceTest(unittest.TestCase):
    def test_functions_are_defined_in_this_file(self):
        told = (all_gone, any_gone, shows_any, shows_spared, sparing, together)
        self.assertEqual({each.__module__ for each in told}, {groups.__name__})

    def test_example(self):
        both = ((1,), (2,))
        told = together(BOOK, QUESTION, ((2,),))
        self.assertEqual(told[1:], (((), (("a", ("x", "y")), ("b", ("y",)), ("all", ("x",)))), "all"))
        self.assertEqual(told[0], {**BOOK, "all": (1, ((2,),))})
        self.assertEqual(all_gone(BOOK, QUESTION, PRICES, both)[1:3], (5, (("a", (2, 6)), ("b", (5,)))))
        self.assertEqual(any_gone(BOOK, QUESTION, PRICES, both)[0], (1,))

    def test_second_example(self):
        told = sparing(BOOK, QUESTION, {"a": 2, "b": 1}, (1,), ((2,),))
        self.assertEqual(told[:4], ("spared", 1, (("b", (5,)),), ((6,),)))
        self.assertEqual(sparing(BOOK, QUESTION, {"a": None, "b": 1}, (2,), ((1,),))[0], "none")


class TogetherTest(unittest.TestCase):
    def test_names_of_the_table(self):
        for taken, name in (((), "all"), (("all",), "all1"), (("all1",), "all"), (("all", "all1", "all2"), "all3"),
                            (("all", "all1", "all3"), "all2"), (("all", "all1", "all2", "all3", "all4"), "all5")):
            book = {**{table: (1, ()) for table in taken}, **BOOK}
            more, closed, told = together(book, QUESTION, ())
            self.assertEqual(told, name)
            self.assertEqual(list(more), list(book) + [name])
            self.assertEqual(closed, ((), QUESTION[1] + ((name, ("x",)),)))
            self.assertEqual(more[name], (1, ()))

    def test_all_answers_and_names(self):
        question = ("y", "x"), QUESTION[1]
        found = references.answers(BOOK, question)
        more, closed, name = together(BOOK, question, tuple(found))
        self.assertEqual(more, {**BOOK, "all": (2, ((5, 1), (5, 2), (6, 2)))})
        self.assertEqual(closed, ((), QUESTION[1] + (("all", ("y", "x")),)))

    def test_the_question_is_about_a_table_called_all(self):
        book = {"all": (1, ((1,), (2,)))}
        more, closed, name = together(book, (("x",), (("all", ("x",)),)), ((1,),))
        self.assertEqual((name, closed), ("all1", ((), (("all", ("x",)), ("all1", ("x",))))))

    def test_too_many(self):
        names = tuple("pqrstuvw")
        wide = {"a": (6, ((1,) * 6,)), "b": (2, ((1, 1),))}
        question = names[:7], (("a", names[:6]), ("b", names[6:]))
        self.assertEqual(raised(together, wide, question, ()), limit(6))
        self.assertIsNone(raised(together, wide, (names[:6], question[1]), ((1,) * 6,)))
        six = {table: (1, ((1,),)) for table in "abcdef"}
        atoms = tuple((table, ("x",)) for table in "abcdef")
        self.assertEqual(raised(together, six, (("x",), atoms), ()), limit(6))
        self.assertIsNone(raised(together, six, (("x",), atoms[:5]), ((1,),)))
        # 61 answers of two tables; and eight tables.
        book = {"a": (1, SIXTY), "b": (1, ((0,), (1,)))}
        pairs = ("x", "y"), (("a", ("x",)), ("b", ("y",)))
        found = tuple(references.answers(book, pairs))
        self.assertIsNone(raised(together, book, pairs, found[:60]))
        self.assertEqual(raised(together, book, pairs, found[:61]), limit(60))
        eight = {**book, **{table: (1, ()) for table in "cdefgh"}}
        self.assertEqual(raised(together, eight, pairs, found[:61]), limit(60))
        self.assertEqual(raised(together, eight, pairs, found[:60]), limit(8))
        self.assertEqual(raised(together, eight, pairs, ()), limit(8))
        seven = {table: eight[table] for table in list(eight)[:7]}
        self.assertIsNone(raised(together, seven, pairs, found[:60]))
        more = {**eight, "c": (1, ((1,),)), "d": (1, ((1,),)), "e": (1, ((1,),)), "f": (1, ((1,),))}
        long = ("x", "y"), pairs[1] + tuple((table, ("z",)) for table in "cdef")
        self.assertEqual(raised(together, more, long, found[:61]), limit(6))

    def test_all_gone_raises_them_ahead_of_prices_and_lines(self):
        six = {table: (1, ((1,),)) for table in "abcdef"}
        question = ("x",), tuple((table, ("x",)) for table in "abcdef")
        self.assertEqual(raised(all_gone, six, question, None, ()), limit(6))
        self.assertEqual(raised(all_gone, six, question, None, None), (NoAnswer, {}))
        self.assertEqual(raised(all_gone, BOOK, QUESTION, None, ((2,),)), (NoPrice, {}))
        self.assertEqual(raised(all_gone, LINKED_BOOK, LINKED, {**dict.fromkeys("rstu", 1), "all": None}, ((4,),)),
            (NoPrice, {}))


class AllAndAnyTest(unittest.TestCase):
    def test_all_gone(self):
        several = 0
        for source, book, question, prices, found in some_cases(71000, 400):
            for many in {0, 1, len(found)}:
                some = tuple(sorted(source.sample(found, min(many, len(found)))))
                error = raised(all_gone, book, question, prices, some)
                if error is not None:
                    self.assertEqual(error[0], NoLine)
                    continue
                told = all_gone(book, question, prices, some)
                price = least_set(book, question, prices, lambda left: not set(left) & set(some))
                self.assertEqual(told[1] if told[0] == "cut" else None, price, (book, question, prices, some))
                more, closed, name = together(book, question, some)
                self.assertIs(shows_least(more, closed, {**prices, name: None}, None, told), True)
                self.assertEqual(told, least_cut(more, closed, {**prices, name: None}, None))
                several += len(some) > 1
        self.assertGreater(several, 60)

    def test_any_gone(self):
        several = 0
        for source, book, question, prices, found in some_cases(72000, 400):
            some = tuple(sorted(source.sample(found, source.randint(0, len(found)))))
            error = raised(any_gone, book, question, prices, some)
            if error is not None:
                self.assertEqual(error[0], NoLine)
                continue
            answer, papers = told = any_gone(book, question, prices, some)
            self.assertEqual(tuple(each for each, _ in papers), some)
            self.assertEqual(papers, tuple(
                (each, least_cut(book, put_answer(question, each), prices, None)) for each in some
            ))
            price = least_set(book, question, prices, lambda left: not set(some) <= set(left))
            known = {each: told[1] for each, told in papers if told[0] == "cut"}
            self.assertEqual(min(known.values(), default=None), price if some else None)
            self.assertEqual(answer, next((each for each in some if each in known and known[each] == price), None))
            self.assertIs(shows_any(book, question, prices, some, told), True)
            self.changed_any(source, (book, question, prices, some), told)
            several += len(some) > 1
        self.assertGreater(several, 40)

    def changed_any(self, source, case, told):
        book, question, prices, some = case
        for thing in some_changes(source, told, 12):
            right = type(thing) is tuple and len(thing) == 2 and type(thing[1]) is tuple
            right = right and all(type(paper) is tuple and len(paper) == 2 for paper in thing[1])
            right = right and references.same(tuple(each for each, _ in thing[1]), some)
            right = right and all(
                references.judge_least(book, references.put_answer(question, each), prices, None, paper)
                for each, paper in thing[1]
            )
            if right:
                known = [(paper[1], each) for each, paper in thing[1] if paper[0] == "cut"]
                right = references.same(thing[0], min(known)[1] if known else None)
            self.assertIs(shows_any(*case, thing), right, (case, shown(thing)))

    def test_all_of_one_answer_may_have_a_triad(self):
        prices = dict.fromkeys("rstu", 1)
        self.assertIsNone(raised(any_gone, LINKED_BOOK, LINKED, prices, ((4,), (5,))))
        kind, fields = raised(all_gone, LINKED_BOOK, LINKED, prices, ((4,),))
        closed = together(LINKED_BOOK, LINKED, ((4,),))[1]
        self.assertEqual((kind, fields["paper"][0]), (NoLine, ("r", "s", "t")))
        self.assertTrue(shows_triad(closed, ("r", "s", "t"), fields["paper"]))

    def test_no_answers(self):
        self.assertEqual(all_gone(BOOK, QUESTION, PRICES, ()), ("cut", 0, (), ()))
        self.assertEqual(any_gone(BOOK, QUESTION, PRICES, ()), (None, ()))
        self.assertIs(shows_any(BOOK, QUESTION, PRICES, (), (None, ())), True)
        for thing in ANY_OBJECTS:
            self.assertIs(shows_any(BOOK, QUESTION, PRICES, (), (thing, ())), thing is None)

    def test_no_answer_has_a_price(self):
        told = any_gone(BOOK, QUESTION, {"a": None, "b": None}, ((1,), (2,)))
        self.assertEqual(told, (None, (((1,), ("stands", (5,))), ((2,), ("stands", (5,))))))
        self.assertIs(shows_any(BOOK, QUESTION, {"a": None, "b": None}, ((1,), (2,)), told), True)
        self.assertIs(shows_any(BOOK, QUESTION, {"a": None, "b": None}, ((1,), (2,)), ((1,), told[1])), False)

    def test_a_line_is_missing(self):
        book = {**LINKED_BOOK, "u": (1, ((1,),))}
        question = ("v",), LINKED[1][:3] + (("u", ("v",)),)
        for prices in (dict.fromkeys("rstu", 1), {**dict.fromkeys("rst", 1), "u": None}):
            kind, fields = raised(any_gone, book, question, prices, ((1,),))
            self.assertEqual((kind, fields["paper"][0]), (NoLine, ("r", "s", "t")))
            self.assertIs(shows_any(book, question, prices, ((1,),), (None, ())), False)

    def test_any_objects(self):
        some = ((1,), (2,))
        told = any_gone(BOOK, QUESTION, PRICES, some)
        for thing in ANY_OBJECTS:
            self.assertIs(shows_any(BOOK, QUESTION, PRICES, some, thing), False)
            self.assertIs(shows_any(BOOK, QUESTION, PRICES, some, (thing, told[1])), references.same(thing, (1,)))
            self.assertIs(shows_any(BOOK, QUESTION, PRICES, some, (told[0], thing)), False)
            self.assertIs(shows_any(BOOK, QUESTION, PRICES, some, (told[0], (told[1][0], ((2,), thing)))), False)
            self.assertIs(
                shows_any(BOOK, QUESTION, PRICES, some, (told[0], ((thing, told[1][0][1]), told[1][1]))),
                references.same(thing, (1,))
            )

    def test_arguments_are_kept(self):
        some = ((1,), (2,))
        told = any_gone(BOOK, QUESTION, PRICES, some)
        keeps_arguments(self, together, BOOK, QUESTION, some)
        keeps_arguments(self, all_gone, BOOK, QUESTION, PRICES, some)
        keeps_arguments(self, any_gone, BOOK, QUESTION, PRICES, some)
        keeps_arguments(self, shows_any, BOOK, QUESTION, PRICES, some, told)
        book = copy.deepcopy(BOOK)
        more = together(book, QUESTION, some)[0]
        book["a"] = (2, ())
        self.assertEqual(more["a"], BOOK["a"])
        more["b"] = (1, ())
        self.assertEqual(book["b"], BOOK["b"])


class SparingTest(unittest.TestCase):
    def check(self, book, question, prices, going, staying):
        case = book, question, prices, going, staying
        told = sparing(*case)
        price = least_set(book, question, prices, lambda left: going not in left and set(staying) <= set(left))
        self.assertEqual((told[0], len(told)), ("none", 2) if price is None else ("spared", 5), case)
        if price is not None:
            self.assertEqual(told[1], price, case)
        self.assertEqual([rows for rows, _ in told[-1]], choice_sets(book, question, prices, staying)[0])
        self.assertTrue(judge_spared(*case, told), (case, told))
        self.assertIs(shows_spared(*case, told), True)
        return told

    def test_small_books(self):
        kinds = set()
        for source, book, question, prices, found in some_cases(73000, 500):
            if not found:
                continue
            going = source.choice(found)
            staying = tuple(sorted(source.sample(found, source.randint(0, min(3, len(found))))))
            error = raised(sparing, book, question, prices, going, staying)
            if error is not None:
                self.assertIn(error[0], (NoLine, TooMany))
                continue
            told = self.check(book, question, prices, going, staying)
            kinds.add((told[0], min(2, len(staying)), going in staying, len(told[-1]) > 1))
            self.changed(source, (book, question, prices, going, staying), told)
        self.assertGreaterEqual(len(kinds), 8)

    def changed(self, source, case, told):
        for thing in some_changes(source, told, 15) + some_changes(source, told[-1], 5):
            expected = judge_spared(*case, thing)
            self.assertIs(shows_spared(*case, thing), expected, (case, shown(thing)))

    def test_none_stay(self):
        told = self.check(BOOK, QUESTION, {"a": 2, "b": 1}, (2,), ())
        self.assertEqual(told[:4], ("spared", 2, (("b", (5,)), ("b", (6,))), ()))
        self.assertEqual([rows for rows, _ in told[4]], [()])

    def test_going_is_one_of_staying(self):
        for staying in (((1,),), ((1,), (2,))):
            told = self.check(BOOK, QUESTION, PRICES, (1,), staying)
            self.assertEqual(told[0], "none")

    def test_the_same_set_by_several_choices(self):
        # b's rows are firm: both answers that stay need the row of c alone.
        book = {"a": (2, ((1, 1), (2, 1), (3, 1))), "c": (1, ((1,),))}
        question = ("x",), (("a", ("x", "y")), ("c", ("y",)))
        told = self.check(book, question, {"a": None, "c": 1}, (1,), ((2,), (3,)))
        self.assertEqual(told[0], "none")
        self.assertEqual([rows for rows, _ in told[1]], [(("c", (1,)),)])
        told = self.check(book, question, {"a": 5, "c": 1}, (1,), ((2,), (3,)))
        self.assertEqual(told[:3], ("spared", 5, (("a", (1, 1)),)))

    def test_papers_of_both_kinds(self):
        # With one set F a way of the going answer stands; with the other one there is a cut.
        book = {"a": (2, ((1, 5), (2, 5), (2, 6))), "b": (1, ((5,), (6,)))}
        told = self.check(book, QUESTION, {"a": None, "b": 7}, (1,), ((2,),))
        self.assertEqual(told[1:4], (7, (("b", (5,)),), ((6,),)))
        self.assertEqual(dict(told[4])[(("b", (5,)),)], (((5,), 7),))
        self.assertTrue(judge_spared(book, QUESTION, {"a": None, "b": 7}, (1,), ((2,),), told))

    def choices(self, *numbers):
        """A book where the answers 1, 2, .. have so many ways each, and 0 has one."""
        rows = [(0, 0)] + [(k + 1, j) for k, many in enumerate(numbers) for j in range(many)]
        return {"a": (2, tuple(sorted(rows)))}, (("x",), (("a", ("x", "y")),)), {"a": 1}

    def test_sixty(self):
        for numbers, right in (((60,), True), ((59, 1), True), ((4, 15), True), ((5, 12), True), ((3, 4, 5), True),
                               ((58,), True), ((7, 9), False), ((2, 31), False), ((4, 4, 4), False), ((30, 3), False)):
            book, question, prices = self.choices(*numbers)
            if len(book["a"][1]) > 60:
                book["a"] = (2, book["a"][1][1:])
                going = (1,)
            else:
                going = (0,)
            staying = tuple((k + 1,) for k in range(len(numbers)))
            error = raised(sparing, book, question, prices, going, staying)
            self.assertEqual(error, None if right else limit(60), numbers)
            self.assertEqual(raised(shows_spared, book, question, prices, going, staying, None), error)
            if right:
                told = sparing(book, question, prices, going, staying)
                self.assertIs(shows_spared(book, question, prices, going, staying, told), True)
        # All answers of one table have the same ways: equal sets count for each of them.
        book, question, prices = self.choices(8, 8)
        self.assertEqual(raised(sparing, book, question, prices, (0,), ((1,), (2,))), limit(60))
        self.assertIsNone(raised(sparing, book, question, {"a": None}, (0,), ((1,), (2,))))

    def test_forty_digits(self):
        case = BOOK, QUESTION, {"a": None, "b": 7}, (1,), ((2,),)
        told = sparing(*case)
        for amount, right in ((7, True), (10 ** 40 - 1, True), (10 ** 40, False), (6, False)):
            papers = tuple((rows, (((5,), amount),)) if rows == (("b", (5,)),) else (rows, paper) for rows,
                paper in told[4])
            self.assertIs(shows_spared(*case, told[:4] + (papers,)), right, amount)

    def test_no_line(self):
        book = {**LINKED_BOOK, "u": (1, ((1,), (2,)))}
        question = ("v",), LINKED[1][:3] + (("u", ("v",)),)
        prices = dict.fromkeys("rstu", 1)
        kind, fields = raised(sparing, book, question, prices, (1,), ((2,),))
        self.assertEqual((kind, fields["paper"][0]), (NoLine, ("r", "s", "t")))
        self.assertIs(shows_spared(book, question, prices, (1,), ((2,),), None), False)
        # All loose tables stand in the line, ruled ones, too: u, with x alone when w is put, rules r and t.
        prices = dict.fromkeys("rstu", 1)
        self.assertIsNone(raised(least_cut, LINKED_BOOK, put_answer(LINKED, (4,)), prices, None))
        self.assertEqual(raised(sparing, LINKED_BOOK, LINKED, prices, (4,), ())[0], NoLine)
        self.assertEqual(raised(sparing, LINKED_BOOK, LINKED, prices, (4,), None), (NoAnswer, {}))
        # No line comes ahead of too many choices.
        many = {**LINKED_BOOK, "r": (2, tuple((1, k) for k in range(9))), "s": (2, tuple((k, 1) for k in range(9)))}
        self.assertEqual(raised(sparing, many, LINKED, prices, (4,), ((4,), (5,)))[0], NoLine)
        self.assertEqual(raised(shows_spared, many, LINKED, prices, (4,), ((4,), (5,)), None), limit(60))

    def test_any_objects(self):
        case = BOOK, QUESTION, {"a": 2, "b": 1}, (1,), ((2,),)
        told = sparing(*case)
        for thing in ANY_OBJECTS:
            self.assertIs(shows_spared(*case, thing), False)
            self.assertIs(shows_spared(*case, ("none", thing)), False)
            for at in range(5):
                right = at == 1 and references.same(thing, 1)
                self.assertIs(shows_spared(*case, told[:at] + (thing,) + told[at + 1:]), right, shown(thing))

    def test_arguments_are_kept(self):
        case = BOOK, QUESTION, {"a": 2, "b": 1}, (1,), ((2,),)
        keeps_arguments(self, sparing, *case)
        keeps_arguments(self, shows_spared, *case, sparing(*case))


class ErrorsTest(unittest.TestCase):
    """Each error with all those that are described ahead of it also due."""

    def all_of(self, book, question, prices, some):
        yield together, (book, question, some)
        yield all_gone, (book, question, prices, some)
        yield any_gone, (book, question, prices, some)
        yield shows_any, (book, question, prices, some, None)
        for going in (some, (1,)):
            yield sparing, (book, question, prices, going, some)
            yield shows_spared, (book, question, prices, going, some, None)

    def test_no_question(self):
        for thing in NEVER_RIGHT + [((), LARGE_QUESTION[1]), ((), QUESTION[1])]:
            for function, arguments in self.all_of(LARGE, thing, None, None):
                self.assertEqual(raised(function, *arguments), (NoQuestion, {}), shown(thing))

    def test_no_price(self):
        for thing in NEVER_RIGHT + [{"a": 1, "b": 1}, {"a": 1, "b": 1, "c": 0}, {"a": 1, "b": 1, "c": 1, "d": 1}]:
            for function, arguments in self.all_of(LARGE, LARGE_QUESTION, thing, None):
                expected = limit(2000) if function in (together, all_gone) else (NoPrice, {})
                self.assertEqual(raised(function, *arguments), expected)

    def test_too_many_ways(self):
        for function, arguments in self.all_of(LARGE, LARGE_QUESTION, {"a": 1, "b": 1, "c": 1}, None):
            self.assertEqual(raised(function, *arguments), limit(2000))

    def test_no_answer(self):
        wrong = [(1,), ((3,),), ((2,), (1,)), ((1,), (1,)), ((1, 2),), ([1],), [(1,)], ((True,),), (None,),
            ((1,), None), ("1",)]
        for thing in wrong + [thing for thing in ANY_OBJECTS if thing not in ((), ((1,),))]:
            for function, arguments in self.all_of(BOOK, QUESTION, PRICES, thing):
                self.assertEqual(raised(function, *arguments), (NoAnswer, {}), (function, shown(thing)))
        for thing in [thing for thing in ANY_OBJECTS if thing != (1,)] + [(True,), ((1,),), (3,), [1]]:
            for function in (sparing, lambda *case: shows_spared(*case, None)):
                self.assertEqual(raised(function, BOOK, QUESTION, PRICES, thing, ((2,),)), (NoAnswer, {}), shown(thing))

    def test_small_pieces(self):
        # The question is taken as a whole: many ways together are too many.
        book = {table: (1, SIXTY) for table in "ab"}
        question = ("x",), (("a", ("x",)), ("b", ("y",)))
        for function, arguments in self.all_of(book, question, {"a": 1, "b": 1}, ((1,),)):
            self.assertEqual(raised(function, *arguments), limit(2000))


if __name__ == "__main__":
    unittest.main()
