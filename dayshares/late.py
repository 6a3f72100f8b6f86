"""Late notes: orders with a note more or less, what that turns, and what leans on a note."""

from dayshares.errors import Leans, Missing, NoMonths, NoNote, TooMany, Twice
from dayshares.notes import MOST_NOTES, is_note, read_all
from dayshares.orders import Order, gains, tally


def with_note(order, note):
    """Tells the order with one more note."""
    if not is_note(note):
        raise NoNote("it is no note")
    notes = order.notes_of()
    if note in notes:
        raise Twice("this note is there")
    if len(notes) >= MOST_NOTES:
        raise TooMany(len(notes) + 1, MOST_NOTES)
    return Order(order.months_of(), order.prices_of(), tuple(sorted([*notes, note])))


def without_note(order, note):
    """Tells the order without one of its notes."""
    _need_note_of(order, note)
    return Order(order.months_of(), order.prices_of(), _others(order.notes_of(), note))


def turned_by(order, other):
    """Tells the rising list of (day, before, after) of the days that the other order pays otherwise."""
    _need_like_months(order, other)
    months = order.months_of()
    turned = []
    for first, behind, one, two in _side_by_side(order, other):
        # Days of one month that both tell alike, their price too, have like shares.
        if one != two:
            before = _paid(months, one, first, behind)
            after = _paid(months, two, first, behind)
            turned.extend([row for row in zip(range(first, behind), before, after) if row[1] != row[2]])
    return turned


def moved(order, other):
    """Tells the rising list of (holder, month, pence): by how much a holder owes more by the other order."""
    _need_like_months(order, other)
    return [(*key, pence) for key, pence in gains(_owed(order), _owed(other))]


def leaners(order, note):
    """Tells the rising tuple of the order's other notes that take, and don't without this one."""
    _need_note_of(order, note)
    return _leaners_among(order.notes_of(), note)


def free_notes(order):
    """Tells the rising tuple of the order's notes on which none leans."""
    notes = order.notes_of()
    return tuple([note for note in notes if len(_leaners_among(notes, note)) == 0])


def struck_out(order, note):
    """Tells the order without one of its notes on which none leans."""
    many = len(leaners(order, note))
    if many > 0:
        raise Leans(many)
    return without_note(order, note)


def _need_note_of(order, note):
    # A truth is like 0 or 1 to Python, so what is no note might be found among the notes.
    if not is_note(note) or note not in order.notes_of():
        raise Missing("the order has no such note")


def _need_like_months(order, other):
    if not isinstance(other, Order) or other.months_of() != order.months_of():
        raise NoMonths("the second order has other months than the first one")


def _others(notes, note):
    return tuple([one for one in notes if one != note])


def _taking(notes):
    told = read_all(notes)
    return [notes[at] for at in range(len(notes)) if told[at] == "takes"]


def _leaners_among(notes, note):
    still = _taking(_others(notes, note))
    return tuple([one for one in _taking(notes) if one != note and one not in still])


def _side_by_side(order, other):
    """Tells the list of (first, behind, one, two): days of which each order tells by one stretch of its own."""
    ends = [day for stretch in [*order.stretches, *other.stretches] for day in stretch[:2]]
    cuts = sorted(set(ends))
    return list(zip(cuts, cuts[1:], _told_from(order, cuts), _told_from(other, cuts)))


def _told_from(order, cuts):
    """Tells the list of the (holder, kind, rule, price) from each of the cuts on; None where nothing is told."""
    starts = {stretch[0]: stretch for stretch in order.stretches}
    told = []
    stretch = None
    for day in cuts:
        if stretch is not None and stretch[1] == day:
            stretch = None
        stretch = starts.get(day, stretch)
        told.append(None if stretch is None else stretch[2:])
    return told


def _paid(months, told, first, behind):
    """Tells the list of what is paid on days of one month, told of by (holder, kind, rule, price) or by None."""
    if told is None:
        return [None] * (behind - first)
    holder, kind, rule, price = told
    least, more = months.pennies_more(price, first, behind)
    # No two days of a month differ by more than a penny, so that two tuples do for all of them.
    low = (holder, kind, least, rule)
    high = (holder, kind, least + 1, rule)
    return [high if is_more else low for is_more in more]


def _owed(order):
    """Tells the dict of what each holder owes for each month, by (holder, month)."""
    months = order.months_of()
    return tally([((line[2], months.place_of(line[0])[0]), line[5]) for line in order.lines_of()])
