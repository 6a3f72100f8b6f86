"""Prices of kinds by the month, and price notes that change them from a day on."""

from dayshares.checks import LAST_DAY, is_name, is_pence, is_rising, is_tuple_of, is_within, need_name
from dayshares.errors import NoDay, NoKind, NoPrices, TooMany

MOST_NOTES = 12


class Prices:
    """What kinds cost by the month, how many of their first days are free, and what changes that."""

    def __init__(self, kinds, notes=None):
        changes = () if notes is None else notes
        if not _are_kinds(kinds):
            raise NoPrices("kinds are a rising tuple of one to six (kind, pence, free)")
        if not _are_price_notes(changes, _names_of(kinds)):
            raise NoPrices("price notes are a rising tuple of none to twelve (day, kind, pence, word)")
        self.kinds = kinds
        self.notes = changes
        self.own = {row[0]: row[1:] for row in kinds}
        self.changes = {row[0]: [note for note in changes if note[1] == row[0]] for row in kinds}

    def has_kind(self, kind):
        """Tells whether the name is one of the kinds."""
        need_name(kind)
        return kind in _names_of(self.kinds)

    def all_kinds(self):
        """Tells the rising list of the kinds' names."""
        return _names_of(self.kinds)

    def all_notes(self):
        """Tells the tuple of the price notes."""
        return self.notes

    def with_price(self, note):
        """Tells the prices with one more price note."""
        if not _is_price_note(note, _names_of(self.kinds)):
            raise NoPrices("a price note is (day, kind, pence, word)")
        if note[:2] in [there[:2] for there in self.notes]:
            raise NoPrices("a price note of this day and this kind is there")
        if len(self.notes) >= MOST_NOTES:
            raise TooMany(len(self.notes) + 1, MOST_NOTES)
        return Prices(self.kinds, tuple(sorted([*self.notes, note])))

    def price_of(self, kind, day, begun=None, ran=None):
        """Tells (pence, rule) on a day, of an order that began on begun and ran on so many days ahead."""
        if kind not in _names_of(self.kinds):
            raise NoKind("none of these kinds")
        if not is_within(day, 0, LAST_DAY):
            raise NoDay("a day is a whole number from 0 to 371")
        start = day if begun is None else begun
        if not is_within(start, 0, day):
            raise NoDay("an order begins from 0 to this day")
        run = day - start if ran is None else ran
        if not is_within(run, 0, day - start):
            raise NoDay("an order ran on as many days at the most as there are since it began")
        return self.priced(kind, day, start, run)

    def priced(self, kind, day, begun, ran):
        """Tells (pence, rule) as price_of, of what is known to be right."""
        pence, free = self.own[kind]
        if ran < free:
            return (0, "free")
        told = (pence, "list")
        # The notes rise, so that the last one that bears is left.
        for note in self.changes[kind]:
            if _bears(note, day, begun):
                told = (note[2], note[3])
        return told

    def free_of(self, kind):
        """Tells how many first days of one of the kinds are free."""
        return self.own[kind][1]

    def days_of(self, kind, word):
        """Tells the rising list of the days of one kind's price notes of this word."""
        return [note[0] for note in self.changes[kind] if note[3] == word]

    def __len__(self):
        return len(self.kinds)

    def __eq__(self, other):
        return isinstance(other, Prices) and self.kinds == other.kinds and self.notes == other.notes

    def __repr__(self):
        return f"Prices({len(self.kinds)} kinds, {len(self.notes)} notes)"

    def __str__(self):
        return "\n".join([" ".join([str(thing) for thing in row]) for row in [*self.kinds, *self.notes]])


def first_parting(one, other, last=30):
    """Tells the least (day, begun, ran, kind) of which two prices tell unlike pence, or None."""
    if not isinstance(one, Prices) or not isinstance(other, Prices):
        raise NoPrices("partings are those of two prices")
    if not is_within(last, 0, 60):
        raise NoDay("the last day is a whole number from 0 to 60")
    if one.all_kinds() != other.all_kinds():
        raise NoKind("the kinds have unlike names")
    found = []
    for kind in one.all_kinds():
        found.extend(_partings_of(one, other, kind, last))
    return min(found, default=None)


def _partings_of(one, other, kind, last):
    """Tells partings of one kind, its least one among them, where it has any."""
    # From one day begun to the next pence turn with notes of "new" alone: so the least tuple has a day of
    # such a note, or 0. On ran they hang only by whether it is less than the free days, and where it is
    # less than those of both books they are alike: so it has the free days of the one or of the other.
    starts = sorted(set([0, *one.days_of(kind, "new"), *other.days_of(kind, "new")]))
    runs = sorted(set([one.free_of(kind), other.free_of(kind)]))
    turns = sorted([*one.days_of(kind, "all"), *other.days_of(kind, "all")])
    found = []
    for begun in starts:
        for ran in runs:
            # The first day by which it can have run so long; from then on notes of "all" alone turn pence.
            first = begun + ran
            for day in [first, *[turn for turn in turns if turn > first]]:
                if day <= last and _pence_part(one, other, kind, day, begun, ran):
                    found.append((day, begun, ran, kind))
    return found


def _pence_part(one, other, kind, day, begun, ran):
    return one.priced(kind, day, begun, ran)[0] != other.priced(kind, day, begun, ran)[0]


def _bears(note, day, begun):
    if note[3] == "all":
        return note[0] <= day
    return note[0] <= begun


def _names_of(kinds):
    return [row[0] for row in kinds]


def is_kind_row(thing):
    """Tells whether thing is (kind, pence, free)."""
    return is_tuple_of(thing, 3, 3) and is_name(thing[0]) and is_pence(thing[1]) and is_within(thing[2], 0, 31)


def _are_kinds(thing):
    if not is_tuple_of(thing, 1, 6) or not all([is_kind_row(row) for row in thing]):
        return False
    # Where the rows rise and no two names are alike, the names alone rise.
    return is_rising(_names_of(thing))


def is_price_row(thing):
    """Tells whether thing is (day, kind, pence, word), the kind any name."""
    if not is_tuple_of(thing, 4, 4) or not is_within(thing[0], 0, LAST_DAY):
        return False
    return is_name(thing[1]) and is_pence(thing[2]) and thing[3] in ("all", "new")


def _is_price_note(thing, names):
    return is_price_row(thing) and thing[1] in names


def _are_price_notes(thing, names):
    if not is_tuple_of(thing, 0, MOST_NOTES) or not all([_is_price_note(note, names) for note in thing]):
        return False
    # Where the notes rise and no two are of one day and one kind, these two alone rise.
    return is_rising([note[:2] for note in thing])
