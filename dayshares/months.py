"""Months, their days, and what share of pence each day has."""

from dayshares.checks import is_pence, is_tuple_of, is_within
from dayshares.errors import NoDay, NoMonths, NoPence


class Months:
    """Months one behind the other, their days numbered from 0 through all of them."""

    def __init__(self, lengths):
        if not _are_lengths(lengths):
            raise NoMonths("months are a tuple of one to twelve lengths from 28 to 31")
        self.lengths = lengths
        self.places = _all_places(lengths)

    def all_lengths(self):
        """Tells the tuple of how many days each month has."""
        return self.lengths

    def place_of(self, day):
        """Tells (month, place), place the day's number in its month."""
        if not is_within(day, 0, len(self.places) - 1):
            raise NoDay("none of the days of these months")
        return self.places[day]

    def span_of(self, month):
        """Tells (first, behind): the month's first day and the first one behind it."""
        if not is_within(month, 0, len(self.lengths) - 1):
            raise NoDay("none of the numbers of these months")
        first = sum(self.lengths[:month])
        return (first, first + self.lengths[month])

    def stretch_of(self, first, behind):
        """Tells (first, behind) of a stretch of days, with what is left out filled in."""
        if first is None:
            first = 0
        if behind is None:
            behind = len(self.places)
        if not is_within(first, 0, len(self.places) - 1):
            raise NoDay("a stretch begins with one of the days of these months")
        if not is_within(behind, first, len(self.places)):
            raise NoDay("a stretch ends from its first day on, behind the last day at the most")
        return (first, behind)

    def share(self, pence, day):
        """Tells the day's share of what its month costs."""
        if not is_pence(pence):
            raise NoPence("pence are a whole number from 0 on")
        self.place_of(day)
        return self.paid_ahead(pence, day + 1) - self.paid_ahead(pence, day)

    def shares(self, pence, first=0, behind=None):
        """Tells the sum of the shares of all days from first on, ahead of behind."""
        if not is_pence(pence):
            raise NoPence("pence are a whole number from 0 on")
        start, stop = self.stretch_of(first, behind)
        return self.paid_ahead(pence, stop) - self.paid_ahead(pence, start)

    def pennies_more(self, pence, first, behind):
        """Tells (least, more): the least share that a day of one month has, and of which days it is a penny more."""
        month, place = self.places[first]
        length = self.lengths[month]
        least, rest = divmod(pence, length)
        # On these days the parts of the rest up to here pass a whole penny: so less than one part is left over.
        return (least, [rest * at % length < rest for at in range(place + 1, place + 1 + behind - first)])

    def paid_ahead(self, pence, day):
        """Tells what all days ahead of a day come to; it may be the first one behind all days."""
        # Shares are differences of these sums, which alone are rounded: so no stretch of days loses anything.
        if day == len(self.places):
            return pence * len(self.lengths)
        month, place = self.places[day]
        return pence * month + pence * place // self.lengths[month]

    def __len__(self):
        return len(self.places)

    def __eq__(self, other):
        return isinstance(other, Months) and self.lengths == other.lengths

    def __repr__(self):
        return f"Months({', '.join([str(length) for length in self.lengths])})"

    def __str__(self):
        return " ".join([str(length) for length in self.lengths])


def _are_lengths(thing):
    return is_tuple_of(thing, 1, 12) and all([is_within(length, 28, 31) for length in thing])


def _all_places(lengths):
    return [(month, place) for month in range(len(lengths)) for place in range(lengths[month])]
