"""Orders: what is paid for each day, line by line."""

from dayshares.checks import is_whole, need_name
from dayshares.errors import NoKind, NoMonths, NoNotes, NoPrices
from dayshares.months import Months
from dayshares.notes import Standing, are_notes
from dayshares.prices import Prices


class Order:
    """A standing order: the months, the prices and the notes that it was made of."""

    def __init__(self, months, prices, notes=None):
        kept = () if notes is None else notes
        if not isinstance(months, Months):
            raise NoMonths("an order has months")
        if not isinstance(prices, Prices):
            raise NoPrices("an order has prices")
        if not are_notes(kept):
            raise NoNotes("notes are a rising tuple of none to sixteen notes")
        if not _have_kinds(prices, kept):
            raise NoKind("a note names a kind that the prices don't have")
        self.months = months
        self.prices = prices
        self.notes = kept
        self.stretches = _priced_stretches(months, prices, kept)

    def paid_on(self, day):
        """Tells (holder, kind, pence, rule) of a day; None where it hasn't begun or is over."""
        self.months.place_of(day)
        for first, behind, holder, kind, rule, price in self.stretches:
            if first <= day < behind:
                return (holder, kind, self.months.share(price, day), rule)
        return None

    def lines_of(self, first=0, behind=None):
        """Tells the list of lines (first, behind, holder, kind, rule, pence) of a stretch of days."""
        start, stop = self.months.stretch_of(first, behind)
        pieces = []
        for stretch in self.stretches:
            low = max(start, stretch[0])
            high = min(stop, stretch[1])
            if low < high:
                pieces.append((low, high, *stretch[2:5], self.months.shares(stretch[5], low, high)))
        return _joined(self.months, pieces)

    def sum_of(self, first=0, behind=None, holder=None):
        """Tells what the lines of a stretch of days come to, a holder's or all."""
        lines = self.lines_of(first, behind)
        if holder is not None:
            need_name(holder)
        return sum([line[5] for line in lines if holder is None or line[2] == holder])

    def lines_hold(self, thing, first=0, behind=None):
        """Tells whether thing is the list of lines of a stretch of days."""
        lines = self.lines_of(first, behind)
        if not isinstance(thing, list) or thing != lines:
            return False
        # A truth is like 0 or 1 to Python, but it is no whole number.
        return all([is_whole(line[k]) for line in thing for k in (0, 1, 5)])

    def months_of(self):
        """Tells the months that it was made of."""
        return self.months

    def prices_of(self):
        """Tells the prices that it was made of."""
        return self.prices

    def notes_of(self):
        """Tells the notes that it was made of."""
        return self.notes

    def running_days(self):
        """Tells the list of the days on which it runs."""
        return [day for stretch in self.stretches if stretch[4] != "paused" for day in range(stretch[0], stretch[1])]

    def __len__(self):
        return len(self.running_days())

    def __eq__(self, other):
        if not isinstance(other, Order):
            return False
        return self.months == other.months and self.prices == other.prices and self.notes == other.notes

    def __repr__(self):
        return f"Order({len(self.notes)} notes, {len(self.running_days())} days)"

    def __str__(self):
        return "\n".join(texts_of(self.lines_of()))


def texts_of(lines):
    """Tells the list of the texts of lines, of each its things with a blank between; of no lines that of none."""
    if len(lines) == 0:
        return ["none"]
    return [" ".join([str(thing) for thing in line]) for line in lines]


def tally(rows):
    """Tells the dict of what the pence of rows (key, pence) come to by their keys."""
    owed = {}
    for key, pence in rows:
        owed[key] = owed.get(key, 0) + pence
    return owed


def gains(before, after):
    """Tells the rising list of (key, pence), by how much a tally is greater than the one before, none of 0."""
    more = tally([*[(key, after[key]) for key in after], *[(key, -before[key]) for key in before]])
    return [(key, more[key]) for key in sorted(more) if more[key] != 0]


def _have_kinds(prices, notes):
    return all([prices.has_kind(note[2]) for note in notes if note[1] in ("begins", "changes")])


def _joined(months, pieces):
    """Tells the lines of pieces one behind the other, those of one month that are alike as one line."""
    lines = []
    for piece in pieces:
        if len(lines) > 0 and lines[-1][2:5] == piece[2:5] and months.place_of(piece[0])[1] > 0:
            lines[-1] = (lines[-1][0], *piece[1:5], lines[-1][5] + piece[5])
        else:
            lines.append(piece)
    return lines


def _priced_stretches(months, prices, notes):
    """Tells the list of (first, behind, holder, kind, rule, price): days of one month that cost alike."""
    month_days = [months.span_of(month)[0] for month in range(len(months.all_lengths()))]
    standing = Standing()
    found = []
    for at in range(len(notes)):
        standing.read(notes[at])
        behind = len(months) if at + 1 == len(notes) else min(notes[at + 1][0], len(months))
        found.extend(_standing_stretches(prices, standing, standing.stands_to(behind), month_days))
    return found


def _standing_stretches(prices, standing, behind, month_days):
    """Tells the stretches from the day on which an order stands, as long as it stands so, ahead of behind."""
    first = standing.day
    if first >= behind:
        return []
    holder, kind = standing.holder, standing.kind
    if standing.paused:
        return [(start, end, holder, kind, "paused", 0) for start, end in _cut(first, behind, month_days)]
    # For an order that has begun the price or its rule turns with a note of "all", and on the first day
    # that isn't free any more.
    turns = [first + prices.free_of(kind) - standing.ran, *prices.days_of(kind, "all")]
    found = []
    for start, end in _cut(first, behind, [*turns, *month_days]):
        price, rule = prices.priced(kind, start, standing.begun, standing.ran + start - first)
        found.append((start, end, holder, kind, rule, price))
    return found


def _cut(first, behind, days):
    """Tells the list of (start, end) into which days cut the stretch from first on, ahead of behind."""
    starts = sorted(set([first, *[day for day in days if first < day < behind]]))
    return list(zip(starts, [*starts[1:], behind]))
