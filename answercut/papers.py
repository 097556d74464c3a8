"""Texts of moving prices, claims, orders, roofs, blames and what is spared, and the judges of these texts."""

from answercut.amounts import MOST_AMOUNT
from answercut.books import MOST_WORTH
from answercut.claims import TERMS, shows_claim
from answercut.nets import need_pinned
from answercut.orders import shows_order
from answercut.readers import Page
from answercut.roofs import MOST_MOVING, need_roofed, shows_roof
from answercut.texts import numbers_line, pair_text, read_or_none, read_pair, read_prices, read_rows, read_ways
from answercut.texts import row_lines, way_lines


def parse_moving(text):
    """Return the moving prices that a text tells; they need be those of no question."""
    return read_prices(text, _read_moving)


def _read_moving(reader):
    a = reader.take_number(0, MOST_MOVING)
    return a, reader.take_number(1 if a == 0 else 0, MOST_MOVING)


def format_moving(moving):
    """Return the canonical text of moving prices."""
    return ", ".join([f"{table} {_moving_text(pair)}" for table, pair in moving.items()])


def _moving_text(pair):
    return "firm" if pair is None else f"{pair[0]} {pair[1]}"


def parse_claim(text):
    """Return (claim, certificate) that a text tells."""
    page = Page(text)
    told = _read_claim(page)
    page.end()
    return told


def _read_claim(page):
    """Return the claim and the certificate of the next lines."""
    reader = page.take_line("claim")
    kind = _read_kind(reader)
    pairs = ()
    if len(TERMS[kind][2]) > 1:
        pairs = (_read_pair_ahead(reader, "and"),)
    claim = (kind,) + pairs + (read_pair(reader),)
    reader = page.take_line("price")
    price = reader.take_number(0, MOST_AMOUNT)
    reader.end()
    rows = read_rows(page, "row")
    return claim, (price, rows, read_ways(page))


def _read_kind(reader):
    """Return the kind of a claim, which is one word or two."""
    kind = reader.peek()
    if kind in ("not", "never"):
        reader.take()
        kind = f"{kind} {reader.peek()}"
    reader.need(kind in TERMS)
    reader.take()
    return kind


def _read_pair_ahead(reader, word):
    """Return the pair (table, row) that is to stand ahead of a word, which is read, too."""
    table = reader.take_name()
    row = (reader.take_number(0, MOST_WORTH),)
    while reader.peek() != word:
        row = row + (reader.take_number(0, MOST_WORTH),)
    reader.take()
    return table, row


def format_claim(claim, paper):
    """Return the canonical text of a claim with its certificate."""
    return "\n".join(_claim_lines(claim, paper))


def _claim_lines(claim, paper):
    pairs = " and ".join([pair_text(table, row) for table, row in claim[1:]])
    price, rows, amounts = paper
    return [f"claim {claim[0]} {pairs}", f"price {price}"] + row_lines("row", rows) + way_lines(amounts)


def parse_order(text):
    """Return (nearest cut, steps, amounts, papers) that a text tells."""
    page = Page(text)
    page.take_line("order").end()
    first = read_rows(page, "row")
    steps = []
    while page.peek() == "step":
        ahead = page.take_line("step").take_numbers()
        left = read_rows(page, "leave")
        steps.append((left, read_rows(page, "come"), ahead))
    page.take_line("least").end()
    amounts = read_ways(page)
    papers = []
    while page.peek() == "claim":
        papers.append(_read_claim(page))
    page.end()
    return first, tuple(steps), amounts, tuple(papers)


def format_order(thing):
    """Return the canonical text of an order with its certificate."""
    first, steps, amounts, papers = thing
    lines = ["order"] + row_lines("row", first)
    for left, come, ahead in steps:
        lines.append(numbers_line("step", ahead))
        lines.extend(row_lines("leave", left) + row_lines("come", come))
    lines.append("least")
    lines.extend(way_lines(amounts))
    for claim, paper in papers:
        lines.extend(_claim_lines(claim, paper))
    return "\n".join(lines)


def parse_roof(text):
    """Return ("roof", stretches, papers) or ("stands", way) that a text tells."""
    page = Page(text)
    if page.peek() == "stands":
        told = "stands", page.take_line("stands").take_numbers()
    else:
        told = _read_roof(page)
    page.end()
    return told


def _read_roof(page):
    page.take_line("roof").end()
    stretches, papers = [], []
    while page.peek() == "from":
        reader = page.take_line("from")
        over, under, a, b = [reader.take_number(0, MOST_AMOUNT) for _ in range(4)]
        reader.end()
        stretches.append(((over, under), a, b, read_rows(page, "row")))
        papers.append(read_ways(page))
    page.take_line("end").end()
    papers.append(read_ways(page))
    return "roof", tuple(stretches), tuple(papers)


def format_roof(thing):
    """Return the canonical text of a roof, or of a way that stands in its place."""
    if thing[0] == "stands":
        return numbers_line("stands", thing[1])
    _, stretches, papers = thing
    lines = ["roof"]
    for ((over, under), a, b, rows), amounts in zip(stretches, papers):
        lines.append(f"from {over} {under} {a} {b}")
        lines.extend(row_lines("row", rows) + way_lines(amounts))
    return "\n".join(lines + ["end"] + way_lines(papers[-1]))


def parse_sets(text):
    """Return ("blame", price, rows, way, papers), ("spared", price, rows, ways, papers) or ("none", papers)."""
    page = Page(text)
    word = page.peek()
    if word not in ("blame", "spared"):
        page.take_line("none").end()
        told = "none", _read_sets(page)
        page.end()
        return told
    reader = page.take_line(word)
    price = reader.take_number(0, MOST_AMOUNT)
    reader.end()
    rows = read_rows(page, "row")
    kept = page.take_line("stay").take_numbers() if word == "blame" else _read_stays(page)
    told = word, price, rows, kept, _read_sets(page)
    page.end()
    return told


def _read_stays(page):
    found = []
    while page.peek() == "stay":
        found.append(page.take_line("stay").take_numbers())
    return tuple(found)


def _read_sets(page):
    """Return the tuple of pairs of a set of rows and of amounts on ways, or of a way that stands."""
    papers = []
    while page.peek() == "set":
        page.take_line("set").end()
        rows = read_rows(page, "row")
        if page.peek() == "stands":
            papers.append((rows, page.take_line("stands").take_numbers()))
        else:
            papers.append((rows, read_ways(page)))
    return tuple(papers)


def format_sets(thing):
    """Return the canonical text of a blame, of what is spared, or of there being none."""
    if thing[0] == "none":
        lines = ["none"]
    else:
        word, price, rows, kept, _ = thing
        stays = [kept] if word == "blame" else kept
        lines = [f"{word} {price}"] + row_lines("row", rows) + [numbers_line("stay", way) for way in stays]
    for rows, rest in thing[-1]:
        lines.append("set")
        lines.extend(row_lines("row", rows) + _rest_lines(thing[0], rest))
    return "\n".join(lines)


def _rest_lines(word, rest):
    """Return the lines of amounts on ways, or of a way that stands; what is empty is a way if there is no price."""
    standing = not isinstance(rest[0], tuple) if rest else word == "none"
    return [numbers_line("stands", rest)] if standing else way_lines(rest)


def judges_claim(book, question, prices, pinned, text):
    """Return whether any text is that of a claim with its certificate that shows_claim takes."""
    need_pinned(book, question, prices, pinned)
    told = read_or_none(parse_claim, text)
    return told is not None and shows_claim(book, question, prices, pinned, told[0], told[1])


def judges_order(book, question, prices, pinned, text):
    """Return whether any text is that of an order that shows_order takes."""
    need_pinned(book, question, prices, pinned)
    told = read_or_none(parse_order, text)
    return told is not None and shows_order(book, question, prices, pinned, told)


def judges_roof(book, question, moving, pinned, text):
    """Return whether any text is that of a roof that shows_roof takes."""
    need_roofed(book, question, moving, pinned)
    told = read_or_none(parse_roof, text)
    return told is not None and shows_roof(book, question, moving, pinned, told)
