"""Sheets: what a month says of several orders together."""

from dayshares.checks import is_name, is_rising, is_tuple_of
from dayshares.errors import NoSheet
from dayshares.orders import Order, gains, tally, texts_of


class Sheet:
    """The lines of several orders, each with a name, in one month."""

    def __init__(self, orders, month):
        if not _are_orders(orders):
            raise NoSheet("a sheet has one to eight (name, order), the names rising, all of like months")
        self.months = orders[0][1].months_of()
        first, behind = self.months.span_of(month)
        self.orders = orders
        self.month = month
        self.lines = sorted([(line[2], name, *line[:2], *line[3:])
                             for name, order in orders for line in order.lines_of(first, behind)])

    def lines_now(self):
        """Tells the rising list of lines (holder, name, first, behind, kind, rule, pence)."""
        return list(self.lines)

    def owed(self):
        """Tells the dict of what the lines of each holder come to."""
        return tally([(line[0], line[6]) for line in self.lines])

    def sums(self):
        """Tells the rising list of (holder, pence), what the lines of each holder come to."""
        owed = self.owed()
        return [(holder, owed[holder]) for holder in sorted(owed)]

    def total(self):
        """Tells what all lines come to."""
        return sum([line[6] for line in self.lines])

    def known_by(self, day):
        """Tells the sheet of what is known by a day, of the notes whose day isn't above it."""
        self.months.place_of(day)
        return Sheet(tuple([(name, _known_order(order, day)) for name, order in self.orders]), self.month)

    def settled(self, other):
        """Tells the rising list of (holder, pence): by how much a holder's sum is greater on the other sheet."""
        if not isinstance(other, Sheet) or other.months != self.months or other.month != self.month:
            raise NoSheet("what is settled is told of two sheets of one month")
        return gains(self.owed(), other.owed())

    def next_sheet(self):
        """Tells the sheet of the same orders of the month behind."""
        return Sheet(self.orders, self.month + 1)

    def __len__(self):
        return len(self.lines)

    def __eq__(self, other):
        if not isinstance(other, Sheet):
            return False
        return self.months == other.months and self.month == other.month and self.lines == other.lines

    def __repr__(self):
        return f"Sheet(month {self.month}, {len(self.lines)} lines)"

    def __str__(self):
        return "\n".join(texts_of(self.lines))


def _are_orders(thing):
    if not is_tuple_of(thing, 1, 8) or not all([_is_named_order(row) for row in thing]):
        return False
    if not is_rising([row[0] for row in thing]):
        return False
    months = thing[0][1].months_of()
    return all([order.months_of() == months for name, order in thing])


def _is_named_order(thing):
    return is_tuple_of(thing, 2, 2) and is_name(thing[0]) and isinstance(thing[1], Order)


def _known_order(order, day):
    known = tuple([note for note in order.notes_of() if note[0] <= day])
    return Order(order.months_of(), order.prices_of(), known)
