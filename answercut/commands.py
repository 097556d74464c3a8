"""What the consoles share: lines of words or parts, and commands over a watch or a keeper."""

from answercut.books import MOST_WORTH
from answercut.errors import InvalidCommand
from answercut.lines import loose_tables
from answercut.readers import number_of
from answercut.texts import format_book, pair_text, parse_prices, parse_question

NONE = "none"
NOTHING = "nothing"


def integer_of(word):
    """Return the integer from 0 to 10 ^ 30 that a word of a command is to be."""
    number = number_of(word, MOST_WORTH)
    if number is None:
        raise InvalidCommand("this is no integer from 0 to 10 ^ 30")
    return number


def row_of(words):
    """Return the row that some words of a command are to be."""
    return tuple([integer_of(word) for word in words])


def listed(texts):
    """Return some texts with commas between, or the word nothing."""
    return ", ".join(texts) if texts else NOTHING


def fraction_text(fraction):
    """Return the text of a fraction: OVER/UNDER."""
    over, under = fraction
    return f"{over}/{under}"


def fractions_text(told):
    """Return the text of rows with fractions, triples (table, row, fraction)."""
    return listed([f"{pair_text(table, row)} {fraction_text(fraction)}" for table, row, fraction in told])


def pairs_text(pairs):
    """Return the text of some pairs (table, row)."""
    return listed([pair_text(table, row) for table, row in pairs])


def halves(book, question, prices):
    """Return chances with which each loose row is there by one half."""
    return {table: {row: (1, 2) for row in book[table][1]} for table in loose_tables(question, prices)}


def texts_of(line, parts, words, ahead):
    """Return the first word of a line and the list of the texts behind it.

    The dicts tell by the first word how many parts, how many words, or more than how many words these are.
    """
    word, _, rest = line.partition(" ")
    if word in parts:
        texts = rest.split(" : ")
        if len(texts) != parts[word]:
            raise InvalidCommand("the command has another number of parts")
        return word, texts
    texts = line.split(" ")[1:]
    if "" in texts:
        raise InvalidCommand("words have one space between two")
    if words.get(word) != len(texts) and not (word in ahead and len(texts) > ahead[word]):
        raise InvalidCommand("there is no such command of as many words")
    return word, texts


def _table(kept, words):
    width = integer_of(words[1])
    return kept.set_table(words[0], width)


def _come(kept, words):
    return kept.come(words[0], row_of(words[1:]))


def _go(kept, words):
    return kept.go(words[0], row_of(words[1:]))


def _pin(kept, words):
    return kept.pin(words[0], row_of(words[1:]))


def _unpin(kept, words):
    return kept.unpin(words[0], row_of(words[1:]))


def _keep(kept, parts):
    question = parse_question(parts[1])
    prices = parse_prices(parts[2])
    return kept.keep(parts[0], question, prices)


def _forget(kept, words):
    return kept.forget(words[0])


def _back(kept, words):
    kept.back(integer_of(words[0]))
    return "ok"


def _book(kept, words):
    return format_book(kept.book_now())


def _pins(kept, words):
    return pairs_text(kept.pinned())


def _notes(kept, words):
    return str(len(kept.notes()))


# By their first words: deeds, of which the consoles tell what they return, and what answers other commands.
DEEDS = {
    "table": _table, "come": _come, "go": _go, "pin": _pin, "unpin": _unpin, "keep": _keep, "forget": _forget,
}
COMMON = {"back": _back, "book": _book, "pins": _pins, "notes": _notes}
