"""Claims about the rows of least cuts, their certificates, and the judge of these."""

from answercut.amounts import price_of, up_to
from answercut.books import is_integer
from answercut.errors import NoRow
from answercut.nets import cut_of_courses, is_cut, need_pinned
from answercut.openings import are_open_amounts, are_open_rows, is_open_row, open_courses, open_prices

# By the kind of a claim: the places of those of its rows that the cut of a certificate has, of those that it has not,
# how much more than its price each of its rows may carry, and how much more than the cut's price is carried in all.
TERMS = {
    "each": ((0,), (), (1,), 1),
    "not each": ((), (0,), (0,), 0),
    "some": ((0,), (), (0,), 0),
    "none": ((), (), (-1,), 0),
    "never both": ((), (), (-1, -1), -1),
    "both": ((0, 1), (), (0, 0), 0),
    "with": ((), (), (-1, 1), 0),
    "not with": ((0,), (1,), (0, 0), 0),
}


def about_row(book, question, prices, pinned, pair):
    """Return two claims about an open row, each with a certificate, or ("stands", way) if there is no cut."""
    need_pinned(book, question, prices, pinned)
    opened = open_prices(question, prices, pinned)
    if not is_open_row(book, opened, pinned, pair):
        raise NoRow("this is no open row")
    courses = open_courses(book, question, opened, pinned)
    told = cut_of_courses(question, courses, opened, {})
    if told[0] == "stands":
        return told
    claims = (("each", pair), ("not each", pair)), (("none", pair), ("some", pair))
    return tuple([_shown(question, opened, courses, told, claim, opposite) for claim, opposite in claims])


def about_rows(book, question, prices, pinned, one, other):
    """Return two claims about two open rows, each with a certificate, or ("stands", way) if there is no cut."""
    need_pinned(book, question, prices, pinned)
    opened = open_prices(question, prices, pinned)
    if not is_open_row(book, opened, pinned, one) or not is_open_row(book, opened, pinned, other) or one == other:
        raise NoRow("these are no two open rows")
    courses = open_courses(book, question, opened, pinned)
    told = cut_of_courses(question, courses, opened, {})
    if told[0] == "stands":
        return told
    claims = (("never both", one, other), ("both", one, other)), (("with", one, other), ("not with", one, other))
    return tuple([_shown(question, opened, courses, told, claim, opposite) for claim, opposite in claims])


def _shown(question, opened, courses, told, claim, opposite):
    """Return of two opposite claims the one that is true, with a certificate.

    The first one has other bounds. With these the least price is at least the sum of its amounts just if it is true;
    otherwise the cut that is told with these bounds is a least one and is as the opposite claim says.
    """
    _, price, rows, amounts = told
    changed = cut_of_courses(question, courses, opened, changes_of(claim))
    if changed[1] >= sum_of(claim, price):
        return claim, (price, rows, tuple(up_to(changed[3], sum_of(claim, price))))
    return opposite, (price, changed[2], amounts)


def changes_of(claim):
    """Return a dict from the rows of a claim to how much more than their prices they may carry."""
    return dict(zip(claim[1:], TERMS[claim[0]][2]))


def sum_of(claim, price):
    """Return the sum that the amounts of a claim's certificate have, by the price of its cut."""
    return max(0, price + TERMS[claim[0]][3])


def shows_claim(book, question, prices, pinned, claim, thing):
    """Return whether any object claim is a claim about open rows, and any object thing a certificate of it."""
    need_pinned(book, question, prices, pinned)
    opened = open_prices(question, prices, pinned)
    if not _is_claim(book, opened, pinned, claim):
        return False
    if not isinstance(thing, tuple) or len(thing) != 3 or not is_integer(thing[0]):
        return False
    price, rows, amounts = thing
    if not is_cut(book, question, prices, pinned, rows) or not are_open_rows(book, opened, pinned, rows):
        return False
    inside, outside, _, _ = TERMS[claim[0]]
    pairs = claim[1:]
    if not all([pairs[at] in rows for at in inside]) or any([pairs[at] in rows for at in outside]):
        return False
    if price != price_of(opened, rows):
        return False
    due = sum_of(claim, price)
    return are_open_amounts(book, question, opened, pinned, changes_of(claim), due, amounts)


def _is_claim(book, opened, pinned, thing):
    """Return whether any object is a claim about open rows."""
    if not isinstance(thing, tuple) or not thing or not isinstance(thing[0], str) or thing[0] not in TERMS:
        return False
    pairs = thing[1:]
    if len(pairs) != len(TERMS[thing[0]][2]) or not all([is_open_row(book, opened, pinned, pair) for pair in pairs]):
        return False
    return len(pairs) == 1 or pairs[0] != pairs[1]
