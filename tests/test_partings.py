"""Point 2.4: the first parting of two prices."""

import random
import time
import unittest

from dayshares.prices import Prices, first_parting
from tests.common import BIG, refusal, refused, same, within, wrong_things

KINDS = (("a", 100, 0), ("b", 200, 0))
SIX = (("a", 5, 0), ("b", 7, 31), ("c", 1, 1), ("d", 4, 2), ("e", 9, 5), ("f", 8, 7))
TWELVE = tuple((k, "abcdef"[k % 6], k, "new") for k in range(12))


def due_parting(one, other, last):
    """Gives the first parting by asking each question of 2.3, the least one first."""
    for day in range(last + 1):
        for begun in range(day + 1):
            for ran in range(day - begun + 1):
                for kind in one.all_kinds():
                    told = one.price_of(kind, day, begun, ran)[0]
                    if told != other.price_of(kind, day, begun, ran)[0]:
                        return (day, begun, ran, kind)
    return None


def drawn_book(draw, names, frees, top):
    """Gives kinds and price notes of few pence, so that many of them are alike."""
    kinds = tuple((kind, draw.choice([0, 5, 6]), draw.choice(frees)) for kind in names)
    notes = {}
    for _ in range(draw.choice([0, 1, 2, 4, 7])):
        note = (draw.randint(0, top), draw.choice(names), draw.choice([0, 5, 5, 6]), draw.choice(["all", "new"]))
        notes[note[:2]] = note
    return kinds, tuple(sorted(notes.values()))


def turned_book(draw, book, frees, top):
    """Gives the kinds and price notes of a book but for some free days, or a note or two."""
    kinds, notes = [list(row) for row in book[0]], list(book[1])
    if draw.random() < 0.5:
        draw.choice(kinds)[2] = draw.choice(frees)
    if notes and draw.random() < 0.6:
        at = draw.randrange(len(notes))
        day, kind, told, _ = notes[at]
        notes[at] = (day, kind, draw.choice([told, 6]), draw.choice(["all", "new"]))
    if draw.random() < 0.5:
        note = (draw.randint(0, top), draw.choice(kinds)[0], draw.choice([0, 5, 6]), draw.choice(["all", "new"]))
        if note[:2] not in [there[:2] for there in notes]:
            notes.append(note)
    return tuple(tuple(row) for row in kinds), tuple(sorted(notes))


class TestFirstParting(unittest.TestCase):
    def parts(self, one, other, last, due):
        same(self, first_parting(one, other, last), due)
        same(self, first_parting(other, one, last), due)

    def test_many_pairs_against_each_question(self):
        rows = [("a", told, free) for told, free in ((0, 0), (5, 0), (5, 1), (5, 2), (5, 4))]
        notes = [(), ((0, "a", 0, "all"),), ((0, "a", 0, "all"), (1, "a", 5, "all")), ((2, "a", 5, "all"),),
                 ((0, "a", 0, "new"), (2, "a", 5, "all")), ((3, "a", 6, "new"),), ((3, "a", 6, "all"),),
                 ((0, "a", 5, "new"), (3, "a", 0, "new"), (5, "a", 5, "all"))]
        books = [Prices((row,), told) for row in rows for told in notes]
        for one in books:
            for other in books:
                for last in (0, 3, 7):
                    same(self, first_parting(one, other, last), due_parting(one, other, last))

    def test_pairs_of_several_kinds(self):
        rows = [(("a", 5, free), ("b", told, other)) for free in (0, 2) for told in (5, 6) for other in (0, 1)]
        notes = [(), ((1, "b", 5, "all"),), ((1, "a", 4, "new"), (1, "b", 4, "all")), ((2, "a", 0, "all"),)]
        books = [Prices(row, told) for row in rows for told in notes]
        for one in books:
            for other in books:
                same(self, first_parting(one, other, 4), due_parting(one, other, 4))

    def test_draws_against_each_question(self):
        draw = random.Random(24)
        for _ in range(250):
            names, frees, top = draw.choice(["a", "ab", "abc"]), draw.choice([[0], [0, 1, 4], [2, 3, 9]]), 14
            one = drawn_book(draw, names, frees, top)
            other = draw.choice([drawn_book(draw, names, frees, top), turned_book(draw, one, frees, top)])
            one, other, last = Prices(*one), Prices(*other), draw.choice([0, 3, 8, 12, 20])
            self.parts(one, other, last, due_parting(one, other, last))

    def test_draws_that_part_late(self):
        draw = random.Random(25)
        for _ in range(25):
            one = drawn_book(draw, "ab", [0, 11, 31], 60)
            other = turned_book(draw, turned_book(draw, one, [0, 11, 31], 60), [0, 11, 31], 60)
            one, other, last = Prices(*one), Prices(*other), draw.choice([31, 45])
            self.parts(one, other, last, due_parting(one, other, last))

    def test_late_days(self):
        for day in range(31, 61):
            self.parts(Prices(KINDS, ((day, "b", 1, "all"),)), Prices(KINDS), 60, (day, 0, 0, "b"))
            self.parts(Prices(KINDS, ((day, "a", 1, "new"),)), Prices(KINDS), 60, (day, day, 0, "a"))
            self.parts(Prices(KINDS, ((day, "a", 1, "new"),)), Prices(KINDS), day - 1, None)
        one = Prices(SIX, TWELVE[:11])
        for day, word, begun in ((40, "all", 0), (59, "all", 0), (60, "new", 60)):
            other = one.with_price((day, "a", 1, word))
            self.parts(one, other, 60, (day, begun, 0, "a"))
            self.parts(one, other, day - 1, None)

    def test_a_begun_day_that_is_neither_0_nor_the_day(self):
        # Orders that began on 4 or later part only behind their free days.
        for free in (1, 5, 31):
            one = Prices((("a", 5, free),))
            other = Prices((("a", 5, free),), ((4, "a", 6, "new"),))
            self.parts(one, other, 60, (4 + free, 4, free, "a"))
            self.parts(one, other, 3 + free, None)
        # Those that began ahead of the note, and those behind the next one, never part.
        one = Prices((("a", 5, 0),), ((9, "a", 6, "new"), (40, "a", 5, "all")))
        other = Prices((("a", 5, 0),), ((9, "a", 6, "new"), (12, "a", 6, "new"), (40, "a", 5, "new")))
        self.parts(one, other, 60, (40, 9, 0, "a"))
        self.parts(one, other, 39, None)

    def test_ran_of_the_one_or_of_the_other(self):
        self.parts(Prices((("a", 5, 3),)), Prices((("a", 5, 9),)), 60, (3, 0, 3, "a"))
        # Orders that began on 20 or later part while they are free by the other book alone.
        one = Prices((("a", 0, 3),), ((20, "a", 5, "new"),))
        other = Prices((("a", 0, 9),), ((20, "a", 6, "new"),))
        self.parts(one, other, 60, (23, 20, 3, "a"))
        # Where the one tells 0 anyway, they part behind the free days of the other.
        one, other = Prices((("a", 0, 3),)), Prices((("a", 5, 9),))
        self.parts(one, other, 60, (9, 0, 9, "a"))
        self.parts(one, other, 8, None)
        one = Prices((("a", 0, 3),), ((20, "a", 0, "new"),))
        other = Prices((("a", 0, 9),), ((20, "a", 6, "new"),))
        self.parts(one, other, 60, (29, 20, 9, "a"))
        self.parts(one, other, 28, None)

    def test_notes_of_new_and_all_on_one_day_of_unlike_kinds(self):
        one = Prices((("a", 5, 0), ("b", 5, 2)))
        for word, due in (("all", (7, 0, 0, "a")), ("new", (7, 0, 2, "b"))):
            other = Prices((("a", 5, 0), ("b", 5, 2)),
                           ((7, "a", 6, word), (7, "b", 6, "new" if word == "all" else "all")))
            self.parts(one, other, 60, due)
            self.parts(one, other, 6, None)
        one = Prices((("a", 5, 7), ("b", 5, 0)))
        other = Prices((("a", 5, 7), ("b", 5, 0)), ((7, "a", 6, "all"), (7, "b", 6, "new")))
        self.parts(one, other, 60, (7, 0, 7, "a"))
        other = Prices((("a", 5, 7), ("b", 5, 0)), ((6, "a", 6, "all"), (6, "b", 6, "new")))
        self.parts(one, other, 60, (6, 6, 0, "b"))
        other = Prices((("a", 5, 7), ("b", 5, 0)), ((6, "a", 6, "all"), (8, "b", 6, "all")))
        self.parts(one, other, 60, (7, 0, 7, "a"))

    def test_how_long_it_takes_where_none_parts(self):
        book = Prices(SIX, TWELVE)
        took = []
        for _ in range(5):
            begun = time.perf_counter()
            same(self, first_parting(book, book, 60), None)
            took.append(time.perf_counter() - begun)
        # The least of several, since the machine may be busy with other things.
        self.assertLess(min(took), 0.005)

    def test_how_long_it_takes_where_many_notes_part_late(self):
        one = Prices((("a", 5, 30), ("b", 0, 0)), tuple((k, "a", 5, "new") for k in range(0, 24, 2)))
        other = Prices((("a", 5, 30), ("b", 0, 0)), tuple((k, "a", 5, "all") for k in range(1, 23, 2)) + (
            (60, "b", 1, "new"),))
        took = []
        for _ in range(5):
            begun = time.perf_counter()
            same(self, first_parting(one, other, 60), (60, 60, 0, "b"))
            took.append(time.perf_counter() - begun)
        self.assertLess(min(took), 0.005)

    def test_alike(self):
        made = Prices(KINDS, ((3, "a", 50, "new"),))
        self.parts(made, made, 60, None)
        self.parts(made, Prices(KINDS, ((3, "a", 50, "new"),)), 60, None)

    def test_rules_may_be_unlike(self):
        self.parts(Prices(KINDS), Prices(KINDS, ((0, "a", 100, "all"), (4, "b", 200, "new"))), 60, None)
        self.parts(Prices((("a", 0, 0),)), Prices((("a", 0, 31),)), 60, None)
        self.parts(Prices((("a", 0, 3),)), Prices((("a", 7, 3),), ((0, "a", 0, "all"),)), 60, None)

    def test_by_hand(self):
        self.parts(Prices(KINDS), Prices((("a", 101, 0), ("b", 200, 0))), 0, (0, 0, 0, "a"))
        self.parts(Prices(KINDS), Prices((("a", 100, 0), ("b", 201, 0))), 60, (0, 0, 0, "b"))
        self.parts(Prices(KINDS), Prices((("a", 101, 0), ("b", 201, 0))), 60, (0, 0, 0, "a"))
        self.parts(Prices(KINDS), Prices(KINDS, ((7, "b", 1, "all"),)), 60, (7, 0, 0, "b"))
        self.parts(Prices(KINDS), Prices(KINDS, ((7, "b", 1, "new"),)), 60, (7, 7, 0, "b"))
        self.parts(Prices(KINDS), Prices(KINDS, ((6, "b", 1, "new"), (7, "a", 1, "all"))), 60, (6, 6, 0, "b"))
        self.parts(Prices(KINDS), Prices(KINDS, ((7, "a", 1, "new"), (7, "b", 1, "all"))), 60, (7, 0, 0, "b"))

    def test_free_days(self):
        self.parts(Prices((("a", 5, 2),)), Prices((("a", 5, 3),)), 60, (2, 0, 2, "a"))
        self.parts(Prices((("a", 5, 0),)), Prices((("a", 5, 3),)), 60, (0, 0, 0, "a"))
        self.parts(Prices((("a", 5, 30),)), Prices((("a", 5, 31),)), 60, (30, 0, 30, "a"))
        self.parts(Prices((("a", 5, 30),)), Prices((("a", 5, 31),)), 29, None)
        # Of two kinds that part on one day, the one that parts after fewer days comes first.
        self.parts(Prices((("a", 5, 2), ("b", 0, 0))), Prices((("a", 5, 3), ("b", 0, 0)), ((2, "b", 9, "all"),)), 60,
                   (2, 0, 0, "b"))
        self.parts(Prices((("a", 5, 2), ("b", 5, 2))), Prices((("a", 5, 3), ("b", 5, 4))), 60, (2, 0, 2, "a"))

    def test_the_day_begun_comes_ahead_of_ran(self):
        one = Prices((("a", 5, 1), ("b", 5, 0)))
        other = Prices((("a", 5, 1), ("b", 5, 0)), ((1, "a", 7, "all"), (1, "b", 7, "new")))
        self.parts(one, other, 60, (1, 0, 1, "a"))

    def test_paused_orders_part_too(self):
        one = Prices((("a", 5, 1),))
        other = Prices((("a", 5, 0),), ((0, "a", 0, "all"), (1, "a", 5, "all")))
        self.parts(one, other, 0, None)
        self.parts(one, other, 60, (1, 0, 0, "a"))

    def test_the_last_day(self):
        for day in (0, 1, 29, 30, 31, 59, 60):
            one, other = Prices(KINDS), Prices(KINDS, ((day, "a", 1, "all"),))
            self.parts(one, other, day, (day, 0, 0, "a"))
            if day > 0:
                self.parts(one, other, day - 1, None)
            if day < 60:
                self.parts(one, other, day + 1, (day, 0, 0, "a"))
        self.parts(Prices(KINDS), Prices(KINDS, ((61, "a", 1, "all"),)), 60, None)
        self.parts(Prices(KINDS), Prices(KINDS, ((60, "b", 1, "new"),)), 60, (60, 60, 0, "b"))

    def test_30_where_left_out(self):
        one = Prices(KINDS)
        same(self, first_parting(one, Prices(KINDS, ((30, "b", 1, "new"),))), (30, 30, 0, "b"))
        same(self, first_parting(one, Prices(KINDS, ((31, "b", 1, "all"),))), None)

    def test_large_pence(self):
        self.parts(Prices((("a", BIG, 0),)), Prices((("a", BIG - 1, 0),)), 0, (0, 0, 0, "a"))

    def test_what_is_no_prices(self):
        made = Prices(KINDS)
        wrong = wrong_things(lambda thing: isinstance(thing, Prices), KINDS, (KINDS, ()), str(made), repr(made))
        refused(self, "NoPrices", lambda one: first_parting(one, made), wrong)
        refused(self, "NoPrices", lambda other: first_parting(made, other), wrong)
        refused(self, "NoPrices", lambda one: first_parting(one, one, 61), wrong)
        refused(self, "NoPrices", lambda one: first_parting(one, made, None), wrong)
        refused(self, "NoPrices", lambda other: first_parting(made, other, -1), wrong)
        refused(self, "NoPrices", lambda one: first_parting(one, Prices((("c", 1, 0),))), wrong)

    def test_last_day_refused(self):
        made = Prices(KINDS)
        wrong = wrong_things(within(0, 60), 61, 62)
        refused(self, "NoDay", lambda last: first_parting(made, made, last), wrong)
        refused(self, "NoDay", lambda last: first_parting(made, Prices((("a", 1, 0),)), last), wrong)
        refused(self, "NoDay", lambda last: first_parting(made, Prices((("a", 1, 0), ("b", 1, 0))), last), wrong)
        same(self, first_parting(made, made, 60), None)
        same(self, first_parting(made, made, 0), None)

    def test_kinds_of_unlike_names(self):
        books = [Prices(kinds) for kinds in (KINDS, KINDS[:1], KINDS[1:], (("a", 100, 0), ("c", 200, 0)),
                                             (("a", 100, 0), ("b", 200, 0), ("c", 1, 0)))]
        for one in books:
            for other in books:
                if one != other:
                    for last in (0, 30, 60):
                        refusal(self, "NoKind", first_parting, one, other, last)
                    refusal(self, "NoKind", first_parting, one, other)

    def test_nothing_is_changed(self):
        one, other = Prices(KINDS), Prices(KINDS, ((7, "b", 1, "new"),))
        for _ in range(2):
            same(self, first_parting(one, other), (7, 7, 0, "b"))
        self.assertEqual(one, Prices(KINDS))
        self.assertEqual(other, Prices(KINDS, ((7, "b", 1, "new"),)))


if __name__ == "__main__":
    unittest.main()
