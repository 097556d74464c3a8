"""Texts of books, questions, prices and papers."""

from answercut.amounts import MOST_AMOUNT
from answercut.books import MOST_ROWS, MOST_TABLES, MOST_WIDTH, MOST_WORTH
from answercut.errors import SyntaxProblem
from answercut.lines import shows_triad
from answercut.nets import line_tables, need_pinned, shows_least, tables_in
from answercut.questions import MOST_ATOMS, MOST_NAMES, MOST_PARTS, pieces
from answercut.readers import Page, Reader, number_of, tokens_of

MOST_CHAIN = 6


def parse_book(text):
    """Return the book that a text tells."""
    page = Page(text)
    book = {}
    while page.peek() is not None:
        if page.peek() == "table":
            reader = page.take_line("table")
            _read_table(reader, book)
        else:
            reader = page.take_line("row")
            _read_row(reader, book)
    return book


def _read_table(reader, book):
    """Read a line of a table into a book."""
    if len(book) >= MOST_TABLES:
        raise SyntaxProblem(reader.number, reader.words[0][0])
    reader.need(reader.peek() not in book)
    name = reader.take_name()
    width = reader.take_number(1, MOST_WIDTH)
    reader.end()
    book[name] = (width, ())


def _read_row(reader, book):
    """Read a line of a row into a book."""
    reader.need(reader.peek() in book and len(book[reader.peek()][1]) < MOST_ROWS)
    table = reader.take()
    width, rows = book[table]
    row = ()
    while len(row) < width:
        reader.need(row + (number_of(reader.peek(), MOST_WORTH),) not in rows)
        row = row + (reader.take_number(0, MOST_WORTH),)
    reader.end()
    book[table] = (width, tuple(sorted(rows + (row,))))


def format_book(book):
    """Return the canonical text of a book."""
    lines = []
    for table, (width, rows) in book.items():
        lines.append(f"table {table} {width}")
        lines.extend(row_lines("row", [(table, row) for row in rows]))
    return "\n".join(lines)


def row_lines(word, pairs):
    """Return the list of the lines of rows in a text, which begin with a word."""
    return [f"{word} {pair_text(table, row)}" for table, row in pairs]


def pair_text(table, row):
    """Return the text of a pair (table, row): TABLE N .. N."""
    return " ".join([table] + number_texts(row))


def number_texts(numbers):
    """Return the list of the texts of integers."""
    return [str(number) for number in numbers]


def parse_question(text):
    """Return the question that a text tells; it need not fit a book."""
    reader = Reader(1, tokens_of(text), len(text))
    columns = _read_head(reader)
    names = {name: True for name in columns}
    atoms = [_read_atom(reader, [], names)]
    while reader.more():
        reader.need(reader.peek() == "," and len(atoms) < MOST_ATOMS)
        reader.take()
        atoms.append(_read_atom(reader, [table for table, _ in atoms], names))
    for name, column in columns.items():
        if not any([name in parts for _, parts in atoms]):
            raise SyntaxProblem(1, column)
    return tuple(columns), tuple(atoms)


def _read_head(reader):
    """Return a dict from the head names to the columns where they stand."""
    columns = {}
    mark = ","
    if reader.peek() == "<-":
        mark = reader.take()
    while mark == ",":
        reader.need(reader.peek() not in columns)
        column = reader.here()
        columns[reader.take_name()] = column
        reader.need(reader.peek() == "<-" or (reader.peek() == "," and len(columns) < MOST_NAMES))
        mark = reader.take()
    return columns


def _read_atom(reader, tables, names):
    """Return the next atom, whose table is none of these; names are those that stand ahead, to which its own come."""
    reader.need(reader.peek() not in tables)
    table = reader.take_name()
    reader.need(reader.peek() == "(")
    mark = reader.take()
    parts = []
    while mark != ")":
        parts.append(_read_part(reader, names))
        reader.need(reader.peek() == ")" or (reader.peek() == "," and len(parts) < MOST_PARTS))
        mark = reader.take()
    return table, tuple(parts)


def _read_part(reader, names):
    worth = number_of(reader.peek(), MOST_WORTH)
    if worth is not None:
        reader.take()
        return worth
    reader.need(reader.peek() in names or len(names) < MOST_NAMES)
    name = reader.take_name()
    names[name] = True
    return name


def format_question(question):
    """Return the canonical text of a question."""
    head, atoms = question
    mark = " <- " if head else "<- "
    return ", ".join(head) + mark + ", ".join([_format_atom(table, parts) for table, parts in atoms])


def _format_atom(table, parts):
    return table + "(" + ", ".join([str(part) for part in parts]) + ")"


def parse_prices(text):
    """Return the prices that a text tells; they need be those of no question."""
    return read_prices(text, _read_price)


def read_prices(text, read_price):
    """Return a dict from the tables of a text to None for the word firm, or to what a function reads."""
    reader = Reader(1, tokens_of(text), len(text))
    prices = {}
    while reader.more():
        if prices:
            reader.need(reader.peek() == ",")
            reader.take()
        reader.need(reader.peek() not in prices)
        table = reader.take_name()
        if reader.peek() == "firm":
            reader.take()
            prices[table] = None
        else:
            prices[table] = read_price(reader)
    return prices


def _read_price(reader):
    return reader.take_number(1, MOST_WORTH)


def format_prices(prices):
    """Return the canonical text of prices."""
    return ", ".join([f"{table} {_price_text(price)}" for table, price in prices.items()])


def _price_text(price):
    return "firm" if price is None else str(price)


def parse_paper(text):
    """Return the paper that a text tells: ("cut", price, rows, amounts), ("stands", way) or (triad, chains)."""
    page = Page(text)
    if page.peek() == "cut":
        paper = _read_cut(page)
    elif page.peek() == "stands":
        paper = "stands", page.take_line("stands").take_numbers()
    else:
        paper = _read_triad(page)
    page.end()
    return paper


def _read_cut(page):
    reader = page.take_line("cut")
    price = reader.take_number(0, MOST_AMOUNT)
    reader.end()
    rows = read_rows(page, "row")
    return "cut", price, rows, read_ways(page)


def read_rows(page, word):
    """Return the tuple of the pairs (table, row) of the next lines that begin with a word."""
    rows = []
    while page.peek() == word:
        rows.append(read_pair(page.take_line(word)))
    return tuple(rows)


def read_pair(reader):
    """Return the pair (table, row) that the rest of a line is to be."""
    table = reader.take_name()
    reader.need(reader.more())
    return table, reader.take_numbers()


def read_ways(page):
    """Return the tuple of the pairs (way, amount) of the next lines that begin with way."""
    amounts = []
    while page.peek() == "way":
        reader = page.take_line("way")
        amount = reader.take_number(1, MOST_AMOUNT)
        amounts.append((reader.take_numbers(), amount))
    return tuple(amounts)


def _read_triad(page):
    reader = page.take_line("triad")
    triad = tuple([reader.take_name() for _ in range(3)])
    reader.end()
    return triad, tuple([_read_chain(page) for _ in range(3)])


def _read_chain(page):
    reader = page.take_line("chain")
    chain = [reader.take_name(), reader.take_name()]
    while reader.more() and len(chain) < MOST_CHAIN:
        chain.append(reader.take_name())
    reader.end()
    return tuple(chain)


def format_paper(paper):
    """Return the canonical text of a paper."""
    if paper[0] == "cut":
        _, price, rows, amounts = paper
        lines = [f"cut {price}"] + row_lines("row", rows) + way_lines(amounts)
    elif paper[0] == "stands":
        lines = [numbers_line("stands", paper[1])]
    else:
        triad, chains = paper
        lines = [" ".join(["triad", *triad])] + [" ".join(["chain", *chain]) for chain in chains]
    return "\n".join(lines)


def numbers_line(word, numbers):
    """Return the line of a word and integers."""
    return " ".join([word] + number_texts(numbers))


def way_lines(amounts):
    """Return the list of the lines of amounts on ways in a text."""
    return [numbers_line(f"way {amount}", way) for way, amount in amounts]


def judges(book, question, prices, pinned, text):
    """Return whether any text is that of a paper that is right."""
    need_pinned(book, question, prices, pinned)
    paper = read_or_none(parse_paper, text)
    if paper is None:
        return False
    if paper[0] in ("cut", "stands"):
        return shows_least(book, question, prices, pinned, paper)
    tables = line_tables(question, prices, pinned)
    return any([shows_triad(question, tables_in(tables, piece), paper) for piece in pieces(question)])


def read_or_none(parse, text):
    """Return what a function reads in any object text, or None if it can't be read."""
    if not isinstance(text, str):
        return None
    try:
        return parse(text)
    except SyntaxProblem:
        return None
