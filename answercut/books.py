"""Books of tables of rows."""

from answercut.errors import NoRow, NoTable, RowTaken, TooMany

LETTERS = "abcdefghijklmnopqrstuvwxyz"
DIGITS = "0123456789"
MOST_SIGNS = 8
MOST_WORTH = 10 ** 30
MOST_WIDTH = 6
MOST_ROWS = 60
MOST_TABLES = 8


def is_integer(thing):
    """Return whether any object is an integer; True and False are none."""
    return isinstance(thing, int) and not isinstance(thing, bool)


def is_name(thing):
    """Return whether any object is a name."""
    if not isinstance(thing, str) or not 1 <= len(thing) <= MOST_SIGNS:
        return False
    return thing[0] in LETTERS and all([sign in LETTERS or sign in DIGITS for sign in thing])


def is_worth(thing):
    """Return whether any object is an integer that a row may have."""
    return is_integer(thing) and 0 <= thing <= MOST_WORTH


def is_row(thing):
    """Return whether any object is a row of some table."""
    if not isinstance(thing, tuple) or not 1 <= len(thing) <= MOST_WIDTH:
        return False
    return all([is_worth(worth) for worth in thing])


def is_table(thing):
    """Return whether any object is a table: its width and its rows."""
    if not isinstance(thing, tuple) or len(thing) != 2:
        return False
    width, rows = thing
    if not is_integer(width) or not 1 <= width <= MOST_WIDTH:
        return False
    if not isinstance(rows, tuple) or len(rows) > MOST_ROWS:
        return False
    return all([_has_width(row, width) for row in rows]) and rises(rows)


def is_book(thing):
    """Return whether any object is a book: a dict from names to tables."""
    if not isinstance(thing, dict) or len(thing) > MOST_TABLES:
        return False
    return all([is_name(name) and is_table(table) for name, table in thing.items()])


def rises(things):
    """Return whether of a tuple of comparable things each is greater than the one ahead of it."""
    return all([low < high for low, high in zip(things, things[1:])])


def need_row(book, table, row):
    """Raise NoTable or NoRow unless row, there or not, fits a table of the book."""
    if not isinstance(table, str) or table not in book:
        raise NoTable("the book has no such table")
    if not _has_width(row, book[table][0]):
        raise NoRow("this is no row of the table's width")


def with_row(book, table, row):
    """Return the book with one row more."""
    need_row(book, table, row)
    rows = book[table][1]
    if row in rows:
        raise RowTaken("the table has this row")
    if len(rows) >= MOST_ROWS:
        raise TooMany(MOST_ROWS)
    return _with_rows(book, table, tuple(sorted(rows + (row,))))


def without_row(book, table, row):
    """Return the book without a row that it has."""
    need_row(book, table, row)
    rows = book[table][1]
    if row not in rows:
        raise NoRow("the table does not have this row")
    return _with_rows(book, table, tuple([kept for kept in rows if kept != row]))


def without_rows(book, pairs):
    """Return the book without the rows of some pairs (table, row), which need not be there."""
    lost = set(pairs)
    return {
        table: (width, tuple([row for row in rows if (table, row) not in lost]))
        for table, (width, rows) in book.items()
    }


def _has_width(thing, width):
    return is_row(thing) and len(thing) == width


def _with_rows(book, table, rows):
    changed = dict(book)
    changed[table] = (book[table][0], rows)
    return changed
