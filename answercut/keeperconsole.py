"""A console that runs commands over a keeper."""

from answercut.commands import COMMON, DEEDS, NONE, NOTHING, fraction_text, fractions_text, halves, integer_of
from answercut.commands import listed, pairs_text, row_of, texts_of
from answercut.errors import InvalidCommand
from answercut.groups import all_gone, any_gone, sparing
from answercut.keepers import Keeper
from answercut.orders import least_cuts
from answercut.papers import format_claim, format_moving, format_order, format_roof, format_sets, judges_claim
from answercut.papers import judges_order, judges_roof, parse_moving
from answercut.readers import Page
from answercut.roofs import Roof
from answercut.texts import format_paper, format_prices, format_question, judges, number_texts, parse_prices
from answercut.texts import parse_question
from answercut.weights import growths


def _done(told):
    """Return the answer of a deed that returned (turned, judged)."""
    turned, judged = told
    if not turned and not judged:
        return "ok"
    names = [" ".join((name,) + words) for name, words in turned]
    return "turned " + ", ".join(names + [f"{number} {_right_text(right)}" for number, right in judged])


def _right_text(right):
    return "right" if right else "wrong"


def _move(keeper, parts):
    moving = parse_moving(parts[1])
    return keeper.move(parts[0], moving)


def _still(keeper, words):
    return keeper.still(words[0])


def _hold(keeper, words):
    what = _what(words[1:])
    return keeper.hold(words[0], what)


def _what(words):
    """Return what is to be held by some words: one that says it, or one row or two."""
    if len(words) == 1 and words[0] in ("least", "orders", "roof"):
        return words[0]
    # A table may be called and, too.
    if "and" not in words[1:]:
        return (_pair_of(words),)
    at = words.index("and", 1)
    return _pair_of(words[:at]), _pair_of(words[at + 1:])


def _pair_of(words):
    if len(words) < 2:
        raise InvalidCommand("a row is a table and integers")
    return words[0], row_of(words[1:])


def _drop(keeper, words):
    return keeper.drop(integer_of(words[0]))


def _cut(keeper, words):
    return format_paper(keeper.told(words[0]))


def _cuts(keeper, words):
    book, question, prices, pinned, _, _ = keeper.asked(words[0])
    found = least_cuts(book, question, prices, pinned)
    return "\n".join([pairs_text(cut) for cut in found]) if found else NONE


def _roof(keeper, words):
    return format_roof(keeper.roof_of(words[0]))


def _front(keeper, words):
    told = keeper.roof_of(words[0])
    if told[0] == "stands":
        return NONE
    return ", ".join([f"{a} {b}" for a, b in Roof(told[1]).front()])


def _at(keeper, words):
    t = _fraction_of(words[1:])
    told = keeper.roof_of(words[0])
    return NONE if told[0] == "stands" else fraction_text(Roof(told[1]).price_at(t))


def _below(keeper, words):
    t = _fraction_of(words[1:])
    told = keeper.roof_of(words[0])
    return NONE if told[0] == "stands" else pairs_text(Roof(told[1]).cut_at(t))


def _fraction_of(words):
    over, under = row_of(words)
    if under == 0:
        raise InvalidCommand("a fraction has no 0 below")
    return over, under


def _growths(keeper, words):
    book, question, prices, _, _, _ = keeper.asked(words[0])
    return fractions_text(growths(book, question, halves(book, question, prices)))


def _answer_of(text):
    """Return the answer of a text; the empty text is the answer of a question without head names."""
    return row_of(text.split(" ")) if text else ()


def _answers_of(text):
    return () if text == NONE else tuple([_answer_of(part) for part in text.split(", ")])


def _all(keeper, parts):
    question = parse_question(parts[0])
    prices = parse_prices(parts[1])
    return format_paper(all_gone(keeper.book_now(), question, prices, _answers_of(parts[2])))


def _any(keeper, parts):
    question = parse_question(parts[0])
    prices = parse_prices(parts[1])
    answer, papers = any_gone(keeper.book_now(), question, prices, _answers_of(parts[2]))
    if answer is None:
        return NONE
    price = [told[1] for each, told in papers if each == answer][0]
    return " ".join(number_texts(answer + (price,)))


def _spared(keeper, parts):
    question = parse_question(parts[0])
    prices = parse_prices(parts[1])
    going = _answer_of(parts[2])
    staying = _answers_of(parts[3])
    return format_sets(sparing(keeper.book_now(), question, prices, going, staying))


def _judge(keeper, parts):
    book, question, prices, pinned, moving, still = keeper.asked(parts[0])
    text = parts[1]
    word = Page(text).peek()
    if word == "roof":
        right = moving is not None and judges_roof(book, question, moving, still, text)
    elif word == "claim":
        right = judges_claim(book, question, prices, pinned, text)
    elif word == "order":
        right = judges_order(book, question, prices, pinned, text)
    else:
        right = judges(book, question, prices, pinned, text)
    return "yes" if right else "no"


def _paper(keeper, words):
    _, what, certificate = keeper.held(integer_of(words[0]))
    if what == "orders":
        return "\n".join([format_order(each) for each in certificate]) if certificate else NONE
    if what == "roof":
        return format_roof(certificate)
    if what == "least" or certificate[0] == "stands":
        return format_paper(certificate)
    return "\n".join([format_claim(claim, paper) for claim, paper in certificate])


def _questions(keeper, words):
    lines = []
    for name, question, prices, moving in keeper.questions():
        texts = [name, format_question(question), format_prices(prices)]
        if moving is not None:
            texts.append(format_moving(moving))
        lines.append(" : ".join(texts))
    return "\n".join(lines) if lines else NOTHING


def _held(keeper, words):
    told = keeper.certificates()
    return listed([f"{number} {name} {_right_text(right)}" for number, name, _, _, right in told])


# By their first words: deeds, and what answers other commands, that the consoles do not share.
MORE_DEEDS = {"move": _move, "still": _still, "hold": _hold, "drop": _drop}
ANSWERS = {
    "cut": _cut, "roof": _roof, "cuts": _cuts, "front": _front, "at": _at, "below": _below,
    "growths": _growths, "all": _all, "any": _any, "spared": _spared, "judge": _judge, "paper": _paper,
    "questions": _questions, "held": _held,
}
# How many parts they have, how many words behind the first one, or how many words ahead of the last ones.
PARTS = {"keep": 3, "move": 2, "judge": 2, "all": 3, "any": 3, "spared": 4}
WORDS = {
    "table": 2, "forget": 1, "still": 1, "drop": 1, "back": 1, "cut": 1, "roof": 1,
    "cuts": 1, "front": 1, "at": 3, "below": 3, "growths": 1, "paper": 1,
    "book": 0, "pins": 0, "notes": 0, "questions": 0, "held": 0,
}
AHEAD = {"come": 1, "go": 1, "pin": 1, "unpin": 1, "hold": 1}


class KeeperConsole:
    """A keeper, without tables at first, over which commands are run."""

    def __init__(self):
        self._keeper = Keeper()

    def execute(self, line):
        """Run one command and return its answer."""
        word, texts = texts_of(line, dict(PARTS), dict(WORDS), dict(AHEAD))
        if word in DEEDS:
            deed = DEEDS[word]
            return _done(deed(self._keeper, texts))
        if word in MORE_DEEDS:
            more = MORE_DEEDS[word]
            return _done(more(self._keeper, texts))
        if word in COMMON:
            common = COMMON[word]
            return common(self._keeper, texts)
        answer = ANSWERS[word]
        return answer(self._keeper, texts)
