"""Point 5.2: turned_by against paid_on of both orders, day by day; and how long it takes."""

import random
import unittest

from dayshares.late import turned_by, without_note
from dayshares.months import Months
from dayshares.orders import Order
from dayshares.prices import Prices
from tests.common import BIG, same, soon
from tests.draws import drawn_notes

YEAR = Months((31, 28, 31, 30, 31, 30, 31, 31, 30, 31, 30, 31))
FIRST = ((0, "begins", "ale", "ann", 0), (20, "changes", "milk"), (40, "pauses"), (50, "resumes"),
         (60, "gives", "bob"), (90, "changes", "ale"))
SECOND = FIRST[:2] + ((41, "pauses"),) + FIRST[3:5] + ((90, "changes", "oil"),)


def year_prices(pence):
    return Prices((("ale", 4000, 14), ("milk", 50, 0), ("oil", 1234, 1)),
                  ((1, "ale", 50, "all"), (30, "ale", pence, "new"), (50, "ale", 99, "all")))


def due_turned(one, other):
    """Gives what is turned by the words of 5.2, day by day."""
    rows = [(day, one.paid_on(day), other.paid_on(day)) for day in range(len(one.months_of()))]
    return [row for row in rows if row[1] != row[2]]


def drawn_year_prices(draw, days):
    """Gives prices with pence of every size and price notes of both words."""
    sizes = [0, 1, 2, 27, 28, 30, 31, 59, 310, 1234, BIG, BIG - draw.randint(1, 60)]
    kinds = tuple((kind, draw.choice(sizes), draw.choice([0, 0, 1, 14, 31])) for kind in "abc")
    rows = {}
    for _ in range(draw.randint(0, 12)):
        day = draw.choice([draw.randint(0, 9), draw.randint(0, days)])
        note = (day, draw.choice("abc"), draw.choice(sizes), draw.choice(["all", "new"]))
        rows[note[:2]] = note
    return Prices(kinds, tuple(sorted(rows.values())))


def drawn_pair(draw):
    """Gives two orders of like months, most often with much in common."""
    lengths = tuple(draw.randint(28, 31) for _ in range(draw.choice([1, 1, 2, 12, 12])))
    months = Months(lengths)
    top = min(371, sum(lengths) + 5)
    prices, notes = drawn_year_prices(draw, top), drawn_notes(draw, top)
    one = Order(months, prices, notes)
    way = draw.randint(0, 4)
    if way == 0 and notes:
        return one, without_note(one, draw.choice(notes))
    if way == 1:
        return one, Order(Months(lengths), drawn_year_prices(draw, top), notes)
    if way == 2:
        return one, Order(months, prices, tuple(sorted(set(notes[:8] + drawn_notes(draw, top, 6)))))
    if way == 3:
        return one, Order(Months(lengths), drawn_year_prices(draw, top), drawn_notes(draw, top))
    return one, Order(Months(lengths), Prices(prices.kinds, prices.notes), notes)


class TestTurnedDayByDay(unittest.TestCase):
    def test_draws(self):
        draw = random.Random(52)
        seen = {}
        for _ in range(400):
            one, other = drawn_pair(draw)
            due = due_turned(one, other)
            same(self, turned_by(one, other), due)
            same(self, turned_by(other, one), [(day, after, before) for day, before, after in due])
            same(self, turned_by(one, one), [])
            for day, before, after in due:
                for told in (before, after):
                    key = told and (told[3], min(len(str(told[2])), 3))
                    seen[key] = seen.get(key, 0) + 1
        # The draws are worth something only where they hold all that 3.4 tells.
        for key in (None, ("paused", 1), ("free", 1), ("list", 1), ("list", 3), ("all", 1), ("all", 3), ("new", 1),
                    ("new", 3)):
            self.assertGreater(seen.get(key, 0), 20, key)

    def test_pence_alone_on_some_days_of_a_month(self):
        for length in range(28, 32):
            months = Months((31, length))
            for pence in range(0, 2 * length + 2, 3):
                for more in (0, 1, 2, length):
                    one, other = [Order(months, Prices((("a", told, 0),)), ((3, "begins", "a", "ann", 40),))
                                  for told in (pence, pence + more)]
                    same(self, turned_by(one, other), due_turned(one, other))

    def test_what_turns_by_a_single_penny(self):
        one, other = [Order(Months((28,)), Prices((("a", told, 0),)), ((0, "begins", "a", "ann", 0),))
                      for told in (14, 15)]
        # Of 14 each second day has a penny; of 15 one more day has one, the last days of both are alike.
        due = due_turned(one, other)
        self.assertEqual(sum(after[2] - before[2] for _, before, after in due), 1)
        same(self, turned_by(one, other), due)

    def test_days_without_anything(self):
        months = Months((28, 28))
        prices = Prices((("a", 28, 0),))
        late, none = Order(months, prices, ((27, "begins", "a", "ann", 3),)), Order(months, prices)
        paid = ("ann", "a", 1, "list")
        same(self, turned_by(none, late), [(day, None, paid) for day in (27, 28, 29)])
        same(self, turned_by(late, none), [(day, paid, None) for day in (27, 28, 29)])
        same(self, turned_by(none, none), [])
        far = Order(months, prices, ((56, "begins", "a", "ann", 0),))
        same(self, turned_by(none, far), [])
        again = Order(months, prices, ((29, "begins", "a", "ann", 1),))
        same(self, turned_by(late, again), [(27, paid, None), (28, paid, None)])


class TestHowLong(unittest.TestCase):
    def test_the_input_told(self):
        one, other = Order(YEAR, year_prices(70), FIRST), Order(YEAR, year_prices(71), SECOND)
        told = soon(self, 0.0015, lambda: turned_by(one, other))
        same(self, told, due_turned(one, other))
        self.assertEqual(len(told), 276)

    def test_two_alike(self):
        one, other = Order(YEAR, year_prices(70), FIRST), Order(YEAR, year_prices(70), FIRST)
        same(self, soon(self, 0.0005, lambda: turned_by(one, other)), [])


if __name__ == "__main__":
    unittest.main()
