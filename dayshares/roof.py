"""A roof: orders by names, the deeds that made them what they are, and what each deed turned."""

from dayshares.checks import need_name
from dayshares.errors import Missing, NoDeed, NoNote, TooMany
from dayshares.late import moved, struck_out, with_note
from dayshares.notes import is_note
from dayshares.orders import Order

MOST_ORDERS = 8


class Roof:
    """Keeps orders of like months and prices by their names."""

    def __init__(self, months, prices):
        # It stands for the order of each name that has none; and months and prices are refused by it as they are due.
        self.bare = Order(months, prices)
        self.months = months
        self.prices = prices
        self.orders = {}
        # For each deed that stands: the name, its order ahead of the deed, its order behind it.
        self.deeds = []

    def tells(self, name, note):
        """Gives the name's order one more note."""
        need_name(name)
        if not is_note(note):
            raise NoNote("it is no note")
        if name not in self.orders and len(self.orders) >= MOST_ORDERS:
            raise TooMany(len(self.orders) + 1, MOST_ORDERS)
        before = self.orders.get(name, self.bare)
        self.do(name, before, with_note(before, note))

    def strikes(self, name, note):
        """Takes a note on which none leans from the name's order."""
        before = self.order_of(name)
        self.do(name, before, struck_out(before, note))

    def back(self):
        """Undoes the last deed that stands."""
        if len(self.deeds) == 0:
            raise NoDeed("no deed stands")
        name, before, _ = self.deeds.pop()
        self.put(name, before)

    def do(self, name, before, after):
        """Keeps a deed and does it."""
        self.deeds.append((name, before, after))
        self.put(name, after)

    def put(self, name, order):
        """Has this order be the name's; one without notes is there no more."""
        if len(order.notes_of()) > 0:
            self.orders[name] = order
        else:
            del self.orders[name]

    def names_now(self):
        """Tells the rising list of all names."""
        return sorted(self.orders)

    def order_of(self, name):
        """Tells the order of a name."""
        need_name(name)
        if name not in self.orders:
            raise Missing("there is no order of this name")
        return self.orders[name]

    def owes(self, holder, month=None):
        """Tells what a holder has to pay by all orders, for a month or for all."""
        need_name(holder)
        first, behind = (0, len(self.months)) if month is None else self.months.span_of(month)
        return sum([self.orders[name].sum_of(first, behind, holder) for name in self.orders])

    def moved_now(self):
        """Tells the rising list of (holder, month, pence) that the last deed that stands turned."""
        if len(self.deeds) == 0:
            return []
        _, before, after = self.deeds[-1]
        return moved(before, after)

    def __len__(self):
        return len(self.orders)

    def __eq__(self, other):
        if not isinstance(other, Roof):
            return False
        return self.months == other.months and self.prices == other.prices and self.orders == other.orders

    def __repr__(self):
        return f"Roof({', '.join([_counted(name, self.orders[name]) for name in sorted(self.orders)])})"


def _counted(name, order):
    return f"{name} {len(order.notes_of())}"
