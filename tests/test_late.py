"""Points 5.1, 5.2 and 5.3: late notes, what they turn, and what leans on a note."""

import random
import unittest

from dayshares.late import free_notes, leaners, moved, struck_out, turned_by, with_note, without_note
from dayshares.months import Months
from dayshares.notes import fates, is_note
from dayshares.orders import Order
from dayshares.prices import Prices
from tests.common import anything, refusal, refused, same, wrong_things
from tests.draws import drawn_months, drawn_notes, drawn_prices, due_paid

MONTHS = Months((31, 28))
PRICES = Prices((("a", 310, 0), ("b", 620, 2), ("c", 0, 0)), ((31, "a", 280, "all"), (31, "b", 560, "all")))
BEGINS = (0, "begins", "a", "ann", 0)
NOTES = (BEGINS, (3, "pauses"), (5, "resumes"), (40, "gives", "bob"))
SIXTEEN = (BEGINS,) + tuple((day, "pauses" if day & 1 else "resumes") for day in range(1, 16))
# Things that are == to notes of NOTES as Python compares them, and no notes.
ALMOST = [(False, "begins", "a", "ann", 0), (0, "begins", "a", "ann", False), list(BEGINS), [3, "pauses"],
          ((3, "pauses"),)]


def order(*notes, months=MONTHS, prices=PRICES):
    return Order(months, prices, notes)


def due_leaners(notes, note):
    """Gives what leans on a note by the words of 5.3."""
    others = tuple(one for one in notes if one != note)
    before = dict(zip(notes, fates(notes)))
    after = dict(zip(others, fates(others)))
    return tuple(one for one in others if before[one] == "takes" and after[one] != "takes")


def due_moved(one, other):
    """Gives what moved by the words of 5.2, day by day."""
    owed = {}
    for sign, told in ((-1, one), (1, other)):
        for day in range(len(told.months_of())):
            paid = due_paid(told, day)
            if paid:
                key = (paid[0], told.months_of().place_of(day)[0])
                owed[key] = owed.get(key, 0) + sign * paid[2]
    return [(*key, owed[key]) for key in sorted(owed) if owed[key]]


class TestWithNote(unittest.TestCase):
    def test_it_is_put_in_its_place(self):
        made = order(*NOTES)
        for note in ((0, "begins", "a", "ann", 1), (0, "changes", "a"), (0, "begins", "a", "amy", 0), (3, "resumes"),
                     (3, "ends"), (4, "gives", "cy"), (40, "gives", "boa"), (371, "ends"), (5, "pauses")):
            told = with_note(made, note)
            same(self, told.notes_of(), tuple(sorted(NOTES + (note,))))
            self.assertEqual(told, order(*sorted(NOTES + (note,))))
            self.assertEqual((told.months_of(), told.prices_of()), (MONTHS, PRICES))
            self.assertEqual(made, order(*NOTES))
            self.assertEqual(without_note(told, note), made)
        same(self, with_note(order(), BEGINS).notes_of(), (BEGINS,))

    def test_it_is_read(self):
        told = with_note(order(*NOTES), (10, "ends"))
        same(self, told.paid_on(9), ("ann", "a", 10, "list"))
        same(self, told.paid_on(10), None)
        same(self, with_note(order(*NOTES), (371, "ends")).lines_of(), order(*NOTES).lines_of())

    def test_no_note(self):
        for made in (order(*NOTES), order(), order(*SIXTEEN)):
            refused(self, "NoNote", lambda note: with_note(made, note), wrong_things(
                lambda thing: isinstance(thing, tuple) and thing == (0, "ends"), *ALMOST, (372, "ends"), (0, "stops"),
                (0, "begins", "a", "ann", 401), (0, "changes", "A"), (0, "changes", "z", "z"), (True, "ends")))

    def test_twice(self):
        for made in (order(*NOTES), order(*SIXTEEN)):
            refused(self, "Twice", lambda note: with_note(made, note), list(made.notes_of()))

    def test_a_seventeenth(self):
        made = order(*SIXTEEN)
        for note in ((16, "ends"), (0, "ends"), (371, "gives", "z"), (3, "changes", "z"), (5, "begins", "z", "z", 0)):
            caught = refusal(self, "TooMany", with_note, made, note)
            self.assertEqual((caught.many, caught.most), (17, 16))
        same(self, with_note(order(*SIXTEEN[:15]), SIXTEEN[15]).notes_of(), SIXTEEN)
        self.assertEqual(made, order(*SIXTEEN))

    def test_no_kind(self):
        for made in (order(*NOTES), order(), order(*SIXTEEN[:15])):
            refused(self, "NoKind", lambda note: with_note(made, note),
                    [(3, "changes", "z"), (371, "changes", "aa"), (9, "begins", "ann", "a", 0)])
        same(self, with_note(order(*NOTES), (9, "gives", "z")).notes_of(), NOTES[:3] + ((9, "gives", "z"), NOTES[3]))

    def test_what_is_refused_changes_nothing(self):
        made = order(*NOTES)
        for kind, note in (("NoNote", [3, "pauses"]), ("Twice", NOTES[1]), ("NoKind", (3, "changes", "z"))):
            refusal(self, kind, with_note, made, note)
        self.assertEqual(made, order(*NOTES))
        same(self, str(made), str(order(*NOTES)))


class TestWithoutNote(unittest.TestCase):
    def test_each_note(self):
        for notes in (NOTES, SIXTEEN, (BEGINS,)):
            for at, note in enumerate(notes):
                made = order(*notes)
                told = without_note(made, note)
                same(self, told.notes_of(), notes[:at] + notes[at + 1:])
                self.assertEqual(told, order(*notes[:at], *notes[at + 1:]))
                self.assertEqual(made, order(*notes))

    def test_missing(self):
        wrong = anything() + ALMOST + [
            (3, "resumes"), (5, "pauses"), (4, "pauses"), (0, "begins", "a", "ann", 1), (40, "gives", "ann"),
            (3, "changes", "z"), (372, "ends")]
        refused(self, "Missing", lambda note: without_note(order(*NOTES), note), wrong)
        refused(self, "Missing", lambda note: without_note(order(), note), wrong + list(NOTES))


class TestTurnedBy(unittest.TestCase):
    def test_by_hand(self):
        one = order(*NOTES)
        same(self, turned_by(one, with_note(one, (8, "pauses")))[:2],
             [(8, ("ann", "a", 10, "list"), ("ann", "a", 0, "paused")),
              (9, ("ann", "a", 10, "list"), ("ann", "a", 0, "paused"))])
        same(self, turned_by(one, with_note(one, (4, "gives", "cy")))[:2],
             [(4, ("ann", "a", 0, "paused"), ("cy", "a", 0, "paused")),
              (5, ("ann", "a", 10, "list"), ("cy", "a", 10, "list"))])
        same(self, turned_by(one, with_note(one, (57, "ends"))),
             [(57, ("bob", "a", 10, "all"), None), (58, ("bob", "a", 10, "all"), None)])
        same(self, turned_by(with_note(one, (57, "ends")), one),
             [(57, None, ("bob", "a", 10, "all")), (58, None, ("bob", "a", 10, "all"))])

    def test_alike(self):
        one = order(*NOTES)
        for other in (one, order(*NOTES), with_note(one, (371, "ends")), with_note(one, (4, "pauses")),
                      with_note(one, (59, "ends"))):
            same(self, turned_by(one, other), [])
            same(self, turned_by(other, one), [])
        same(self, turned_by(order(), order()), [])

    def test_a_rule_or_a_kind_alone(self):
        one = order((0, "begins", "c", "ann", 1))
        free = Prices((("c", 310, 1),))
        same(self, turned_by(one, order((0, "begins", "c", "ann", 1), prices=free)),
             [(0, ("ann", "c", 0, "list"), ("ann", "c", 0, "free"))])
        same(self, turned_by(one, order((0, "begins", "b", "ann", 1))),
             [(0, ("ann", "c", 0, "list"), ("ann", "b", 0, "free"))])

    def test_draws(self):
        draw = random.Random(51)
        for _ in range(120):
            months = drawn_months(draw)
            one, other = [Order(months, drawn_prices(draw), drawn_notes(draw)) for _ in range(2)]
            if draw.random() < 0.6 and one.notes_of():
                other = without_note(one, draw.choice(one.notes_of()))
            due = [(day, due_paid(one, day), due_paid(other, day)) for day in range(len(months))]
            same(self, turned_by(one, other), [row for row in due if row[1] != row[2]])
            same(self, moved(one, other), due_moved(one, other))
            same(self, moved(other, one), [(*row[:2], -row[2]) for row in moved(one, other)])

    def test_unlike_months(self):
        for call in (turned_by, moved):
            for lengths in ((31,), (31, 28, 31), (28, 31), (31, 29)):
                other = order(*NOTES, months=Months(lengths))
                refusal(self, "NoMonths", call, order(*NOTES), other)
                refusal(self, "NoMonths", call, other, order(*NOTES))
                refusal(self, "NoMonths", call, order(), other)
            same(self, call(order(*NOTES), order(*NOTES, months=Months((31, 28)))), [])
            refused(self, "NoMonths", lambda thing: call(order(*NOTES), thing),
                    wrong_things(lambda thing: isinstance(thing, Order), MONTHS, NOTES))

    def test_lists_told_are_the_askers_own(self):
        one, other = order(*NOTES), order(*NOTES[:3])
        for call in (turned_by, moved):
            before = call(one, other)
            self.assertTrue(before)
            call(one, other).clear()
            same(self, call(one, other), before)
        self.assertEqual(one, order(*NOTES))


class TestMoved(unittest.TestCase):
    def test_month_by_month(self):
        one = order(BEGINS)
        same(self, moved(one, with_note(one, (21, "pauses"))), [("ann", 0, -100), ("ann", 1, -280)])
        same(self, moved(one, with_note(one, (21, "gives", "bob"))),
             [("ann", 0, -100), ("ann", 1, -280), ("bob", 0, 100), ("bob", 1, 280)])
        same(self, moved(with_note(one, (21, "gives", "bob")), one),
             [("ann", 0, 100), ("ann", 1, 280), ("bob", 0, -100), ("bob", 1, -280)])
        same(self, moved(one, with_note(one, (40, "changes", "b"))), [("ann", 1, 190)])
        same(self, moved(order(), one), [("ann", 0, 310), ("ann", 1, 280)])
        same(self, moved(one, order()), [("ann", 0, -310), ("ann", 1, -280)])

    def test_those_of_0_are_left_out(self):
        one = order(BEGINS)
        same(self, moved(one, one), [])
        same(self, moved(one, order(*NOTES[:1], (59, "ends"))), [])
        # Days are given on there and back, so that the holder owes as much as ahead of it.
        there = order(BEGINS, (3, "gives", "bob"), (5, "gives", "ann"))
        back = order(BEGINS, (6, "gives", "bob"), (8, "gives", "ann"))
        self.assertEqual(len(turned_by(there, back)), 4)
        same(self, moved(there, back), [])
        same(self, moved(order((0, "begins", "c", "ann", 0)), order((0, "begins", "c", "bob", 0))), [])

    def test_a_note_told_late_pays_just_the_difference(self):
        draw = random.Random(52)
        for _ in range(60):
            one = Order(drawn_months(draw), drawn_prices(draw), drawn_notes(draw, most=14))
            note = (draw.randint(0, 95), "gives", "u")
            other = with_note(one, note)
            for month in range(len(one.months_of().all_lengths())):
                span = one.months_of().span_of(month)
                for holder in "uxyz":
                    more = [row[2] for row in moved(one, other) if row[:2] == (holder, month)]
                    same(self, one.sum_of(*span, holder) + sum(more), other.sum_of(*span, holder))


class TestLeaners(unittest.TestCase):
    def test_by_hand(self):
        made = order(*NOTES)
        same(self, leaners(made, BEGINS), NOTES[1:])
        same(self, leaners(made, NOTES[1]), (NOTES[2],))
        same(self, leaners(made, NOTES[2]), ())
        same(self, leaners(made, NOTES[3]), ())
        same(self, free_notes(made), NOTES[2:])

    def test_what_takes_ahead_of_what_would_be_over(self):
        # A pause moves the end: without it the note behind is "over".
        notes = ((0, "begins", "a", "ann", 5), (2, "pauses"), (4, "resumes"), (6, "changes", "b"))
        same(self, leaners(order(*notes), notes[1]), (notes[2], notes[3]))
        same(self, leaners(order(*notes), notes[2]), ())
        same(self, free_notes(order(*notes)), notes[2:])

    def test_changes_and_gives(self):
        notes = (BEGINS, (1, "changes", "b"), (2, "changes", "a"), (3, "gives", "bob"), (4, "gives", "ann"))
        same(self, leaners(order(*notes), notes[1]), (notes[2],))
        same(self, leaners(order(*notes), notes[3]), (notes[4],))
        same(self, free_notes(order(*notes)), (notes[2], notes[4]))

    def test_what_takes_nothing_bears_none(self):
        notes = (BEGINS, (1, "resumes"), (2, "changes", "a"), (3, "pauses"), (4, "begins", "b", "bob", 0))
        for note in notes[1:]:
            same(self, leaners(order(*notes), note), ())
        same(self, leaners(order(*notes), BEGINS), (notes[3],))
        same(self, free_notes(order(*notes)), notes[1:])
        # The second "begins" would take without the first one; what leaned on the first one still takes.
        notes = (BEGINS, (0, "begins", "b", "bob", 0), (4, "pauses"))
        same(self, leaners(order(*notes), BEGINS), ())
        same(self, free_notes(order(*notes)), notes)

    def test_notes_behind_all_months(self):
        notes = (BEGINS, (100, "pauses"), (371, "resumes"))
        same(self, leaners(order(*notes), notes[1]), (notes[2],))
        same(self, leaners(order(*notes), BEGINS), notes[1:])

    def test_none(self):
        same(self, free_notes(order()), ())
        same(self, free_notes(order(BEGINS)), (BEGINS,))
        same(self, free_notes(order((3, "ends"), (4, "pauses"))), ((3, "ends"), (4, "pauses")))

    def test_sixteen(self):
        made = order(*SIXTEEN)
        same(self, leaners(made, BEGINS), SIXTEEN[1:])
        same(self, leaners(made, SIXTEEN[14]), (SIXTEEN[15],))
        same(self, free_notes(made), (SIXTEEN[15],))

    def test_draws(self):
        draw = random.Random(53)
        for _ in range(150):
            notes = drawn_notes(draw)
            made = Order(drawn_months(draw), drawn_prices(draw), notes)
            free = []
            for note in notes:
                due = due_leaners(notes, note)
                same(self, leaners(made, note), due)
                self.assertTrue(all(one > note for one in due))
                if due:
                    same(self, refusal(self, "Leans", struck_out, made, note).many, len(due))
                else:
                    free.append(note)
                    self.assertEqual(struck_out(made, note), without_note(made, note))
            same(self, free_notes(made), tuple(free))
            same(self, made.notes_of(), notes)

    def test_missing(self):
        wrong = anything() + ALMOST + [(3, "resumes"), (4, "pauses"), (0, "begins", "a", "ann", 1), (372, "ends")]
        for call in (leaners, struck_out):
            refused(self, "Missing", lambda note: call(order(*NOTES), note), wrong)
            refused(self, "Missing", lambda note: call(order(), note), wrong + list(NOTES))
        self.assertFalse(any(is_note(thing) for thing in ALMOST))


class TestStruckOut(unittest.TestCase):
    def test_one_on_which_none_leans(self):
        made = order(*NOTES)
        for note in NOTES[2:]:
            self.assertEqual(struck_out(made, note), without_note(made, note))
        self.assertEqual(struck_out(struck_out(made, NOTES[2]), NOTES[1]), order(BEGINS, NOTES[3]))
        same(self, struck_out(order(BEGINS), BEGINS).notes_of(), ())
        self.assertEqual(made, order(*NOTES))

    def test_leans(self):
        made = order(*NOTES)
        for note, many in ((BEGINS, 3), (NOTES[1], 1)):
            same(self, refusal(self, "Leans", struck_out, made, note).many, many)
        same(self, refusal(self, "Leans", struck_out, order(*SIXTEEN), BEGINS).many, 15)
        self.assertEqual(made, order(*NOTES))


if __name__ == "__main__":
    unittest.main()
