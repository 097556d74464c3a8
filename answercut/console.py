"""A console that runs commands over a watch."""

from answercut.commands import COMMON, DEEDS, NONE, NOTHING, fraction_text, fractions_text, halves, listed, row_of
from answercut.commands import texts_of
from answercut.lines import loose_tables
from answercut.reports import report
from answercut.shares import chance, counts, shares
from answercut.texts import format_paper, format_prices, format_question, judges, number_texts, pair_text
from answercut.texts import parse_prices, parse_question
from answercut.watches import Watch


def _turned(names):
    return " ".join(["turned", *names]) if names else "ok"


def _price(watch, words):
    told = watch.told(words[0])
    return str(told[1]) if told[0] == "cut" else NONE


def _cut(watch, words):
    return format_paper(watch.told(words[0]))


def _blame(watch, words):
    told = watch.blame_of(words[0], (words[1], row_of(words[2:])))
    if told[0] == "none":
        return NONE
    return ", ".join([str(told[1])] + [pair_text(table, row) for table, row in told[2]])


def _counts(watch, words):
    book, question, prices, _ = watch.asked(words[0])
    return " ".join(number_texts(counts(book, question, loose_tables(question, prices))))


def _evens(watch, words):
    book, question, prices, _ = watch.asked(words[0])
    return fraction_text(chance(book, question, halves(book, question, prices)))


def _shares(watch, words):
    book, question, prices, _ = watch.asked(words[0])
    return fractions_text(shares(book, question, loose_tables(question, prices)))


def _report(watch, parts):
    question = parse_question(parts[0])
    prices = parse_prices(parts[1])
    told = report(watch.book_now(), question, prices)
    return listed([" ".join(number_texts(answer) + [_least_text(price)]) for answer, price in told])


def _least_text(price):
    return NONE if price is None else str(price)


def _judge(watch, parts):
    book, question, prices, pinned = watch.asked(parts[0])
    return "yes" if judges(book, question, prices, pinned, parts[1]) else "no"


def _questions(watch, words):
    lines = [
        f"{name} : {format_question(question)} : {format_prices(prices)}"
        for name, question, prices in watch.questions()
    ]
    return "\n".join(lines) if lines else NOTHING


# By their first words: what answers the commands that the consoles do not share.
ANSWERS = {
    "price": _price, "cut": _cut, "blame": _blame, "counts": _counts, "evens": _evens, "shares": _shares,
    "report": _report, "judge": _judge, "questions": _questions,
}
# How many parts they have, how many words behind the first one, or how many words ahead of the integers of a row.
PARTS = {"keep": 3, "report": 2, "judge": 2}
WORDS = {
    "table": 2, "forget": 1, "back": 1, "price": 1, "cut": 1, "counts": 1,
    "evens": 1, "shares": 1, "book": 0, "pins": 0, "notes": 0, "questions": 0,
}
AHEAD = {"come": 1, "go": 1, "pin": 1, "unpin": 1, "blame": 2}


class Console:
    """A watch, without tables at first, over which commands are run."""

    def __init__(self):
        self._watch = Watch()

    def execute(self, line):
        """Run one command and return its answer."""
        word, texts = texts_of(line, dict(PARTS), dict(WORDS), dict(AHEAD))
        if word in DEEDS:
            deed = DEEDS[word]
            return _turned(deed(self._watch, texts))
        if word in COMMON:
            common = COMMON[word]
            return common(self._watch, texts)
        answer = ANSWERS[word]
        return answer(self._watch, texts)
