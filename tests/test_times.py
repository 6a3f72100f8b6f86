"""How long answers take: of the largest inputs that the points let, and of usual ones."""

import unittest

from dayshares.desk import Desk
from dayshares.late import free_notes, leaners, moved, struck_out, turned_by, with_note, without_note
from dayshares.months import Months
from dayshares.notes import day_of, fates
from dayshares.orders import Order
from dayshares.plans import best_plan, paper_for, paper_shows, plan_pence
from dayshares.prices import Prices, first_parting
from dayshares.roof import Roof
from dayshares.sheets import Sheet
from dayshares.texts import note_shown, notes_read, notes_shown, prices_read
from dayshares.ways import cheapest_way, marks_hold, marks_of, way_of
from tests.common import BIG, refusal, soon

# What the largest may take, and the usual ones; the machine that runs this may be slower than most.
LARGE, USUAL = 0.004, 0.001

YEAR = Months((31,) * 12)
BOOK = Prices(tuple((kind, BIG - at, 31) for at, kind in enumerate("abcdef")),
              tuple((31 * at, "a", BIG - at, "all") for at in range(12)))
NOTES = tuple(sorted([(0, "begins", "a", "ann", 0), (5, "gives", "bob")] + [
    (23 * at, "pauses" if at & 1 else "resumes") for at in range(1, 15)]))
NAMES = tuple("abcdefgh")

# Each chain of steps goes against the order of their numbers; a hub has ways from and to many.
CHAIN = tuple(sorted(("utsrqponmlkjihgfedcb"[at], "tsrqponmlkjihgfedcba"[at], BIG) for at in range(20)))
HUB = tuple(sorted([(kind, "hub", BIG - at) for at, kind in enumerate("abcdefghij")] + [
    ("hub", kind, BIG - 7 * at) for at, kind in enumerate("klmnopqrst")]))
FREE = tuple(sorted((one, other, 0) for one in "abcde" for other in "abcde" if one != other))
CASES = (
    (CHAIN, (tuple("utsrqp"), tuple("abcdef"))), (CHAIN, (tuple("utsrqp"), tuple("utsrqp"))),
    (CHAIN, (tuple("utsrqp"), tuple("utsrqz"))), (CHAIN, (tuple("abcdef"), tuple("utsrqp"))),
    (HUB, (tuple("abcdef"), tuple("klmnop"))), (HUB, (tuple("abcdef"), tuple("klmnoz"))),
    (FREE, (tuple("abcdea"), tuple("edcbab"))), (FREE, (tuple("aabbcc"), tuple("ddeezz"))),
)


def full_roof():
    """Gives a roof of eight orders of sixteen notes."""
    made = Roof(YEAR, BOOK)
    for name in NAMES:
        for note in NOTES:
            made.tells(name, note)
    return made


def full_desk():
    """Gives a desk told the same."""
    made = Desk(YEAR, BOOK)
    for name in NAMES:
        for note in NOTES:
            made.say(f"tell {name} {note_shown(note)}")
    return made


class TestLargest(unittest.TestCase):
    def soon(self, call):
        return soon(self, LARGE, call)

    def test_plans(self):
        for steps, wishes in CASES:
            best = self.soon(lambda: best_plan(steps, wishes))
            paper = self.soon(lambda: paper_for(steps, wishes))
            self.assertEqual(self.soon(lambda: paper_shows(steps, wishes, paper)), best[0] if best else "none")
            self.assertEqual(self.soon(lambda: plan_pence(steps, wishes, best[1] if best else (0, 1, 2, 3, 4, 5))),
                             best and best[0])

    def test_ways(self):
        for steps in (CHAIN, HUB, FREE):
            for kind in "auk":
                marks = self.soon(lambda: marks_of(steps, kind))
                self.assertIs(self.soon(lambda: marks_hold(steps, kind, marks)), True)
                for wished in "aukz":
                    told = self.soon(lambda: cheapest_way(steps, kind, wished))
                    if told:
                        self.assertEqual(self.soon(lambda: way_of(steps, kind, told[1])), (wished, told[0]))

    def test_orders_and_late_notes(self):
        made = self.soon(lambda: Order(YEAR, BOOK, NOTES))
        other = Order(YEAR, BOOK, NOTES[:1])
        for call in (made.lines_of, made.sum_of, lambda: made.paid_on(371), lambda: len(made), lambda: repr(made),
                     lambda: str(made), lambda: made == other, lambda: made.lines_hold(made.lines_of()),
                     lambda: fates(NOTES), lambda: day_of(NOTES, 371), lambda: turned_by(made, other),
                     lambda: moved(made, other), lambda: free_notes(made), lambda: leaners(made, NOTES[0]),
                     lambda: struck_out(made, NOTES[-1]), lambda: without_note(made, NOTES[0]),
                     lambda: with_note(without_note(made, NOTES[3]), NOTES[3]), lambda: first_parting(BOOK, BOOK, 60)):
            self.soon(call)

    def test_sheets(self):
        rows = tuple((name, Order(YEAR, BOOK, NOTES)) for name in NAMES)
        made = self.soon(lambda: Sheet(rows, 3))
        for call in (made.lines_now, made.sums, made.total, made.next_sheet, lambda: made.settled(made),
                     lambda: str(made), lambda: made == Sheet(rows, 3), lambda: made.known_by(371)):
            self.soon(call)

    def test_a_roof(self):
        made, other = full_roof(), full_roof()

        def there_and_back():
            made.strikes("d", NOTES[-1])
            made.back()

        def refused():
            refusal(self, "Leans", made.strikes, "d", NOTES[0])

        for call in (made.names_now, made.moved_now, lambda: made.owes("ann"), lambda: made.owes("bob", 7),
                     lambda: made == other, lambda: repr(made), lambda: len(made), lambda: made.order_of("h"),
                     there_and_back, refused):
            self.soon(call)

    def test_a_desk(self):
        made, other = full_desk(), full_desk()

        def there_and_back():
            made.say("strike d " + note_shown(NOTES[-1]))
            made.say("back")

        for line in ("names", "moved", "owes ann", "owes bob 7", "days d", "paid d 371", "sheet 11"):
            self.soon(lambda: made.say(line))
        for call in (there_and_back, lambda: made == other, lambda: repr(made)):
            self.soon(call)
        self.assertEqual(len(made), 128)

    def test_texts(self):
        text = self.soon(lambda: notes_shown(NOTES))
        self.assertEqual(self.soon(lambda: notes_read(text)), NOTES)
        self.assertEqual(self.soon(lambda: prices_read(str(BOOK))), BOOK)


class TestUsual(unittest.TestCase):
    def test_a_few_of_each(self):
        months, prices = Months((31, 28, 31)), Prices((("ale", 4000, 14), ("milk", 50, 0)), ((9, "ale", 50, "new"),))
        notes = ((3, "begins", "ale", "ann", 0), (20, "pauses"), (25, "resumes"), (40, "changes", "milk"))
        steps, wishes = (("a", "b", 3), ("a", "c", 9), ("b", "c", 4)), (("a", "b"), ("c", "b"))
        order, roof, desk = Order(months, prices, notes), Roof(months, prices), Desk(months, prices)
        for note in notes:
            roof.tells("one", note)
            desk.say("tell one " + note_shown(note))
        paper = paper_for(steps, wishes)
        for call in (lambda: best_plan(steps, wishes), lambda: paper_for(steps, wishes),
                     lambda: paper_shows(steps, wishes, paper), lambda: plan_pence(steps, wishes, (1, 0)),
                     lambda: cheapest_way(steps, "a", "c"), lambda: marks_of(steps, "a"), roof.moved_now,
                     lambda: roof.owes("ann"), lambda: Order(months, prices, notes), order.lines_of,
                     lambda: Sheet((("one", order),), 0), lambda: notes_read(notes_shown(notes)),
                     lambda: prices_read(str(prices)), lambda: desk.say("owes ann"), lambda: desk.say("moved"),
                     lambda: desk.say("paid one 30"), lambda: desk.say("sheet 1")):
            soon(self, USUAL, call)


if __name__ == "__main__":
    unittest.main()
