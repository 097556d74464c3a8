"""Questions as they are at some time, and certificates of them."""

from answercut.claims import about_row, about_rows, shows_claim
from answercut.errors import NoPrice, NoRow
from answercut.nets import shows_least
from answercut.orders import Order, order_papers, orders, shows_order
from answercut.roofs import roof, shows_roof
from answercut.watches import pins_of


class View:
    """The rows, pins, prices and moving prices of a kept question at some time, and what is told of it.

    No view is changed once it is there.
    """

    def __init__(self, book, pins, question, prices, moving, told):
        self.book = {table: book[table] for table, _ in question[1]}
        self.question = question
        self.prices = prices
        self.pinned = pins_of(pins, prices)
        self.moving = moving
        self.still = None if moving is None else pins_of(pins, moving)
        self.told = told
        self.orders = orders(self.book, question, prices, self.pinned)
        self.roof = None if moving is None else roof(self.book, question, moving, self.still)

    def stays(self, book, pins, moving):
        """Return whether all is as it was for the question in a book, with some pins and moving prices or None."""
        if not all([book[table] == self.book[table] for table in self.book]) or moving != self.moving:
            return False
        return pins_of(pins, self.prices) == self.pinned and (moving is None or pins_of(pins, moving) == self.still)

    def new_orders(self):
        """Return the list of the orders, as new objects."""
        return [Order(first, steps) for first, steps in [order.plain() for order in self.orders]]

    def gist(self):
        """Return the least price and the told cut, or None where there is none."""
        return self.told[1:3] if self.told[0] == "cut" else None

    def stretches(self):
        """Return the stretches of the roof, () if a way stands in its place, None if there are no moving prices."""
        if self.roof is None:
            return None
        return self.roof[1] if self.roof[0] == "roof" else ()

    def certificate(self, what):
        """Return a certificate of the least cut, the roof, or of claims about a tuple of one row or two."""
        if what == "least":
            return self.told
        if what == "roof":
            if self.roof is None:
                raise NoPrice("the question has no moving prices")
            return self.roof
        if isinstance(what, tuple) and len(what) == 1:
            return about_row(self.book, self.question, self.prices, self.pinned, what[0])
        if isinstance(what, tuple) and len(what) == 2:
            return about_rows(self.book, self.question, self.prices, self.pinned, what[0], what[1])
        raise NoRow("this is nothing that can be held")

    def order_certificates(self):
        """Return the tuple of all orders with their certificates."""
        # An order of too many cuts raises TooMany when it is counted, ahead of all papers.
        counted = [(len(order), order) for order in self.orders]
        return tuple([
            order.plain() + order_papers(self.book, self.question, self.prices, self.pinned, order)
            for _, order in counted
        ])

    def takes(self, what, certificate):
        """Return whether a certificate that was held is right."""
        if what == "orders":
            return len(certificate) == len(self.orders) and all([
                shows_order(self.book, self.question, self.prices, self.pinned, each) for each in certificate
            ])
        if what == "roof":
            if self.moving is None:
                return False
            return shows_roof(self.book, self.question, self.moving, self.still, certificate)
        if what == "least" or certificate[0] == "stands":
            return shows_least(self.book, self.question, self.prices, self.pinned, certificate)
        return all([
            shows_claim(self.book, self.question, self.prices, self.pinned, claim, paper)
            for claim, paper in certificate
        ])
