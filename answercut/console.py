"""A console that runs commands over a watch."""

from answercut.books import MOST_WORTH
from answercut.errors import InvalidCommand
from answercut.lines import loose_tables
from answercut.readers import number_of
from answercut.reports import report
from answercut.shares import chance, counts, shares
from answercut.texts import format_book, format_paper, format_prices, format_question, judges, number_texts, pair_text
from answercut.texts import parse_prices, parse_question
from answercut.watches import Watch

NONE = "none"
NOTHING = "nothing"


def integer_of(word):
    """Return the integer from 0 to 10 ^ 30 that a word of a command is to be."""
    number = number_of(word, MOST_WORTH)
    if number is None:
        raise InvalidCommand("this is no integer from 0 to 10 ^ 30")
    return number


def row_of(words):
    """Return the row that some words of a command are to be."""
    return tuple([integer_of(word) for word in words])


def listed(texts):
    """Return some texts with commas between, or the word nothing."""
    return ", ".join(texts) if texts else NOTHING


def fraction_text(fraction):
    """Return the text of a fraction: OVER/UNDER."""
    over, under = fraction
    return f"{over}/{under}"


def _turned(names):
    return " ".join(["turned", *names]) if names else "ok"


def _table(watch, words):
    width = integer_of(words[1])
    return _turned(watch.set_table(words[0], width))


def _come(watch, words):
    return _turned(watch.come(words[0], row_of(words[1:])))


def _go(watch, words):
    return _turned(watch.go(words[0], row_of(words[1:])))


def _pin(watch, words):
    return _turned(watch.pin(words[0], row_of(words[1:])))


def _unpin(watch, words):
    return _turned(watch.unpin(words[0], row_of(words[1:])))


def _keep(watch, parts):
    question = parse_question(parts[1])
    prices = parse_prices(parts[2])
    return _turned(watch.keep(parts[0], question, prices))


def _forget(watch, words):
    return _turned(watch.forget(words[0]))


def _back(watch, words):
    watch.back(integer_of(words[0]))
    return "ok"


def _price(watch, words):
    told = watch.told(words[0])
    return str(told[1]) if told[0] == "cut" else NONE


def _cut(watch, words):
    return format_paper(watch.told(words[0]))


def _blame(watch, words):
    told = watch.blame_of(words[0], (words[1], row_of(words[2:])))
    if told[0] == "none":
        return NONE
    return ", ".join([str(told[1])] + [pair_text(table, row) for table, row in told[2]])


def _counts(watch, words):
    book, question, prices, _ = watch.asked(words[0])
    return " ".join(number_texts(counts(book, question, loose_tables(question, prices))))


def _evens(watch, words):
    book, question, prices, _ = watch.asked(words[0])
    chances = {table: {row: (1, 2) for row in book[table][1]} for table in loose_tables(question, prices)}
    return fraction_text(chance(book, question, chances))


def _shares(watch, words):
    book, question, prices, _ = watch.asked(words[0])
    told = shares(book, question, loose_tables(question, prices))
    return listed([f"{pair_text(table, row)} {fraction_text(share)}" for table, row, share in told])


def _report(watch, parts):
    question = parse_question(parts[0])
    prices = parse_prices(parts[1])
    told = report(watch.book_now(), question, prices)
    return listed([" ".join(number_texts(answer) + [_least_text(price)]) for answer, price in told])


def _least_text(price):
    return NONE if price is None else str(price)


def _judge(watch, parts):
    book, question, prices, pinned = watch.asked(parts[0])
    return "yes" if judges(book, question, prices, pinned, parts[1]) else "no"


def _book(watch, words):
    return format_book(watch.book_now())


def _pins(watch, words):
    return listed([pair_text(table, row) for table, row in watch.pinned()])


def _notes(watch, words):
    return str(len(watch.notes()))


def _questions(watch, words):
    lines = [
        f"{name} : {format_question(question)} : {format_prices(prices)}"
        for name, question, prices in watch.questions()
    ]
    return "\n".join(lines) if lines else NOTHING


# By their first words: the commands whose rest is parted, those of words alone, and those of words that end with a row.
PARTED = {"keep": _keep, "report": _report, "judge": _judge}
WORDED = {
    "table": _table, "forget": _forget, "back": _back, "price": _price, "cut": _cut, "counts": _counts,
    "evens": _evens, "shares": _shares, "book": _book, "pins": _pins, "notes": _notes, "questions": _questions,
}
ENDING = {"come": _come, "go": _go, "pin": _pin, "unpin": _unpin, "blame": _blame}
# How many parts, words behind the first one, and words ahead of the row's integers they have.
PARTS = {"keep": 3, "report": 2, "judge": 2}
WORDS = {
    "table": 2, "forget": 1, "back": 1, "price": 1, "cut": 1, "counts": 1,
    "evens": 1, "shares": 1, "book": 0, "pins": 0, "notes": 0, "questions": 0,
}
AHEAD = {"come": 1, "go": 1, "pin": 1, "unpin": 1, "blame": 2}


class Console:
    """A watch, without tables at first, over which commands are run."""

    def __init__(self):
        self._watch = Watch()

    def execute(self, line):
        """Run one command and return its answer."""
        word, _, rest = line.partition(" ")
        if word in PARTED:
            return self._run_parted(word, rest.split(" : "))
        words = line.split(" ")[1:]
        if "" in words:
            raise InvalidCommand("words have one space between two")
        if word in WORDED and len(words) == WORDS[word]:
            worded = WORDED[word]
            return worded(self._watch, words)
        if word in ENDING and len(words) > AHEAD[word]:
            ending = ENDING[word]
            return ending(self._watch, words)
        raise InvalidCommand("there is no such command of as many words")

    def _run_parted(self, word, parts):
        if len(parts) != PARTS[word]:
            raise InvalidCommand("the command has another number of parts")
        parted = PARTED[word]
        return parted(self._watch, parts)
