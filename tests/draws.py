"""What the tests draw: months, prices, notes and orders, the same ones each time; and what is due of orders."""

from dayshares.months import Months
from dayshares.notes import day_of
from dayshares.orders import Order
from dayshares.prices import Prices

MANY_WORDS = ("changes", "changes", "gives", "pauses", "pauses", "resumes", "resumes", "resumes", "ends")


def drawn_months(draw):
    """Gives one to three months."""
    return Months(tuple(draw.randint(28, 31) for _ in range(draw.randint(1, 3))))


def drawn_prices(draw, top=95, most=12):
    """Gives prices of the kinds a to c, with price notes of days up to top."""
    kinds = tuple((kind, draw.choice([0, 100, 310, 999]), draw.choice([0, 0, 1, 3, 10, 31])) for kind in "abc")
    rows = {}
    for _ in range(draw.randint(0, most)):
        note = (draw.randint(0, top), draw.choice("abc"), draw.choice([0, 50, 310, 620]), draw.choice(["all", "new"]))
        rows[note[:2]] = note
    return Prices(kinds, tuple(sorted(rows.values())))


def drawn_notes(draw, top=95, most=15):
    """Gives notes of days up to top, most often one of "begins" early among them."""
    told = set()
    if draw.random() < 0.95:
        told.add((draw.randint(0, 9), "begins", draw.choice("abc"), draw.choice("xyz"), draw.choice([0, 0, 4, 20, 50])))
    for _ in range(draw.randint(0, most)):
        day, word = draw.randint(0, top), draw.choice(MANY_WORDS)
        if word == "changes":
            told.add((day, word, draw.choice("abc")))
        elif word == "gives":
            told.add((day, word, draw.choice("xyz")))
        else:
            told.add((day, word))
    if draw.random() < 0.2 and len(told) < 16:
        told.add((draw.randint(0, top), "begins", draw.choice("abc"), "z", draw.choice([0, 3])))
    return tuple(sorted(told))


def drawn_order(draw):
    """Gives an order of drawn months, prices and notes."""
    return Order(drawn_months(draw), drawn_prices(draw), drawn_notes(draw))


def due_share(lengths, pence, day):
    """Gives the day's share by the words of 1.2."""
    month, place = due_place(lengths, day)
    return pence * (place + 1) // lengths[month] - pence * place // lengths[month]


def due_place(lengths, day):
    """Gives (month, place) of a day."""
    for month, length in enumerate(lengths):
        if day < length:
            return (month, day)
        day -= length


def due_paid(order, day):
    """Gives what is paid for a day by the words of 3.4, of how the order stands and what the prices tell."""
    stands = day_of(order.notes_of(), day)
    if stands is None:
        return None
    holder, kind, paused, ran = stands
    if paused:
        return (holder, kind, 0, "paused")
    begun = [note[0] for note in order.notes_of() if note[1] == "begins"][0]
    price, rule = order.prices_of().price_of(kind, day, begun, ran)
    return (holder, kind, due_share(order.months_of().all_lengths(), price, day), rule)


def due_lines(order, first, behind):
    """Gives the lines of a stretch of days by the words of 3.5, day by day."""
    lengths = order.months_of().all_lengths()
    lines = []
    for day in range(first, behind):
        told = due_paid(order, day)
        if told is None:
            continue
        holder, kind, pence, rule = told
        last = lines[-1] if lines else None
        if last and last[1] == day and due_place(lengths, day)[1] > 0 and last[2:5] == (holder, kind, rule):
            lines[-1] = (last[0], day + 1, holder, kind, rule, last[5] + pence)
        else:
            lines.append((day, day + 1, holder, kind, rule, pence))
    return lines
