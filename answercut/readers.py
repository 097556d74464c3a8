"""What reads texts word by word, and tells where reading can't go on."""

from answercut.books import DIGITS, LETTERS, MOST_WORTH, is_name
from answercut.errors import SyntaxProblem

MOST_DIGITS = 40


def number_of(word, most):
    """Return the integer from 0 to most that a word, or None, is, or None if it is none."""
    if word is None or not 1 <= len(word) <= MOST_DIGITS:
        return None
    if not all([sign in DIGITS for sign in word]) or (word[0] == "0" and word != "0"):
        return None
    number = int(word)
    return number if number <= most else None


def words_of(line):
    """Return the list of the words of a line, pairs (column, word)."""
    words, column = [], 1
    for word in line.split(" "):
        if word:
            words.append((column, word))
        column += len(word) + 1
    return words


def tokens_of(text):
    """Return the list of the tokens of a text, pairs (column, token)."""
    tokens, at = [], 0
    while at < len(text):
        end = at + 1
        if _is_sign(text[at]):
            while end < len(text) and _is_sign(text[end]):
                end += 1
        elif text[at:at + 2] == "<-":
            end = at + 2
        if text[at] != " ":
            tokens.append((at + 1, text[at:end]))
        at = end
    return tokens


def _is_sign(sign):
    return sign in LETTERS or sign in DIGITS


class Reader:
    """The words of a line, or the tokens of a text, read one by one."""

    def __init__(self, number, words, size):
        self.number = number
        self.words = words
        self.size = size
        self.at = 0

    def more(self):
        """Return whether there is a word that is not read yet."""
        return self.at < len(self.words)

    def here(self):
        """Return the column of the next word, or of the end."""
        return self.words[self.at][0] if self.more() else self.size + 1

    def peek(self):
        """Return the next word, which stays the next one, or None at the end."""
        return self.words[self.at][1] if self.more() else None

    def take(self):
        """Return the next word and go on to the one behind it."""
        word = self.words[self.at][1]
        self.at += 1
        return word

    def need(self, right):
        """Raise SyntaxProblem at the next word, or at the end, unless it is right."""
        if not right:
            raise SyntaxProblem(self.number, self.here())

    def take_number(self, least, most):
        """Return the integer that the next word is to be."""
        number = number_of(self.peek(), most)
        self.need(number is not None and number >= least)
        self.take()
        return number

    def take_numbers(self):
        """Return the tuple of the integers up to 10 ^ 30 that all further words are to be."""
        numbers = []
        while self.more():
            numbers.append(self.take_number(0, MOST_WORTH))
        return tuple(numbers)

    def take_name(self):
        """Return the name that the next word is to be."""
        self.need(is_name(self.peek()))
        return self.take()

    def end(self):
        """Raise SyntaxProblem if there is a word too many."""
        self.need(not self.more())


class Page:
    """The lines of a text, read one by one; those without words are passed over."""

    def __init__(self, text):
        lines = text.split("\n")
        readers = [Reader(number, words_of(line), len(line)) for number, line in enumerate(lines, start=1)]
        self.readers = [reader for reader in readers if reader.more()]
        self.size = len(lines)
        self.at = 0

    def peek(self):
        """Return the first word of the next line, or None behind the last line."""
        return self.readers[self.at].peek() if self.at < len(self.readers) else None

    def take_line(self, word):
        """Return the next line, read up to behind the word with which it is to begin."""
        if self.at == len(self.readers):
            raise SyntaxProblem(self.size + 1, 1)
        reader = self.readers[self.at]
        reader.need(reader.peek() == word)
        reader.take()
        self.at += 1
        return reader

    def end(self):
        """Raise SyntaxProblem if there is a line too many."""
        if self.at < len(self.readers):
            self.readers[self.at].need(False)
