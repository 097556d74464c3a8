"""Reports on the answers of questions, the cheapest wishes, and the rows that harden questions."""

from answercut.books import need_row, without_rows
from answercut.errors import NoPrice, NoRow, NoTable, RowTaken
from answercut.nets import least_cut
from answercut.questions import answers, is_price, need_closed, put_answer, rows_of, ways


def report(book, question, prices):
    """Return the ascending list of (answer, least price or None)."""
    found = answers(book, question)
    return [(answer, _least_price(book, put_answer(question, answer), prices)) for answer in found]


def weakest(book, question, prices):
    """Return the ascending list of the answers with the least price of all."""
    told = report(book, question, prices)
    # None is greater than every integer, so it is the least price only if there is no other one.
    known = [price for _, price in told if price is not None]
    least = min(known) if known else None
    return [answer for answer, price in told if price == least]


def standing(book, question, prices, price):
    """Return the ascending list of the answers that stand whatever rows are lost that cost at most price together."""
    told = report(book, question, prices)
    return [answer for answer, least in told if least is None or least > price]


def falls(book, question, pairs):
    """Return the ascending list of the answers that are none any more without some rows."""
    before = answers(book, question)
    left = {answer: True for answer in answers(without_rows(book, pairs), question)}
    return [answer for answer in before if answer not in left]


def wish(book, question, offers):
    """Return (price, rows) of the cheapest wish, or None if all offered rows don't help."""
    need_closed(book, question)
    _need_offers(book, offers)
    # A set of offered rows helps if those of a way are among them; so a cheapest one has the rows of some way alone.
    found = [_offered(question, offers, way) for way in ways(_with_offers(book, offers), question)]
    if not found:
        return None
    price, _, rows = min(found)
    return price, rows


def hardening(book, question, prices, offers):
    """Return the list of (price, table, row) of the offered rows that harden the question, the hardest ones first."""
    now = _least_price(book, question, prices)
    _need_offers(book, offers)
    told = []
    for table, row in _offered_rows(offers):
        price = _least_price(_with_offers(book, {table: {row: 1}}), question, prices)
        if _is_greater(price, now):
            told.append((price, table, row))
    return sorted(told, key=_hardest_first)


def _least_price(book, question, prices):
    """Return the least price of a cut, nothing being pinned, or None if there is none."""
    told = least_cut(book, question, prices, None)
    return told[1] if told[0] == "cut" else None


def _is_greater(price, other):
    return other is not None and (price is None or price > other)


def _hardest_first(told):
    price, table, row = told
    return price is not None, 0 if price is None else -price, table, row


def _need_offers(book, offers):
    """Raise NoTable, NoRow, RowTaken or NoPrice unless any object offers are offers of rows."""
    if not isinstance(offers, dict) or not all([table in book for table in offers]):
        raise NoTable("offers are a dict from tables of the book")
    for table, offered in offers.items():
        if not isinstance(offered, dict):
            raise NoRow("the offers of a table are a dict from rows")
        for row, price in offered.items():
            need_row(book, table, row)
            if row in book[table][1]:
                raise RowTaken("the table has this row")
            if not is_price(price):
                raise NoPrice("this is no price of an offered row")


def _offered_rows(offers):
    return [(table, row) for table, offered in offers.items() for row in offered]


def _with_offers(book, offers):
    """Return the book with all offered rows, in some tables perhaps more than a book's tables have."""
    return {
        table: (width, tuple(sorted(rows + tuple(offers.get(table, {})))))
        for table, (width, rows) in book.items()
    }


def _offered(question, offers, way):
    """Return (price, number, offered rows) for the offered rows of a way."""
    rows = tuple(sorted([(table, row) for table, row in rows_of(question, way) if row in offers.get(table, {})]))
    return sum([offers[table][row] for table, row in rows]), len(rows), rows
