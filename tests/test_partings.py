"""Point 2.4: the first parting of two prices."""

import unittest

from dayshares.prices import Prices, first_parting
from tests.common import BIG, refusal, refused, same, within, wrong_things

KINDS = (("a", 100, 0), ("b", 200, 0))


def due_parting(one, other, last):
    """Gives the first parting by asking each question of 2.3, the least one first."""
    for day in range(last + 1):
        for begun in range(day + 1):
            for ran in range(day - begun + 1):
                for kind in one.all_kinds():
                    told = one.price_of(kind, day, begun, ran)[0]
                    if told != other.price_of(kind, day, begun, ran)[0]:
                        return (day, begun, ran, kind)
    return None


class TestFirstParting(unittest.TestCase):
    def parts(self, one, other, last, due):
        same(self, first_parting(one, other, last), due)
        same(self, first_parting(other, one, last), due)

    def test_many_pairs_against_each_question(self):
        rows = [("a", told, free) for told, free in ((0, 0), (5, 0), (5, 1), (5, 2), (5, 4))]
        notes = [(), ((0, "a", 0, "all"),), ((0, "a", 0, "all"), (1, "a", 5, "all")), ((2, "a", 5, "all"),),
                 ((0, "a", 0, "new"), (2, "a", 5, "all")), ((3, "a", 6, "new"),), ((3, "a", 6, "all"),),
                 ((0, "a", 5, "new"), (3, "a", 0, "new"), (5, "a", 5, "all"))]
        books = [Prices((row,), told) for row in rows for told in notes]
        for one in books:
            for other in books:
                for last in (0, 3, 7):
                    same(self, first_parting(one, other, last), due_parting(one, other, last))

    def test_pairs_of_several_kinds(self):
        rows = [(("a", 5, free), ("b", told, other)) for free in (0, 2) for told in (5, 6) for other in (0, 1)]
        notes = [(), ((1, "b", 5, "all"),), ((1, "a", 4, "new"), (1, "b", 4, "all")), ((2, "a", 0, "all"),)]
        books = [Prices(row, told) for row in rows for told in notes]
        for one in books:
            for other in books:
                same(self, first_parting(one, other, 4), due_parting(one, other, 4))

    def test_alike(self):
        made = Prices(KINDS, ((3, "a", 50, "new"),))
        self.parts(made, made, 60, None)
        self.parts(made, Prices(KINDS, ((3, "a", 50, "new"),)), 60, None)

    def test_rules_may_be_unlike(self):
        self.parts(Prices(KINDS), Prices(KINDS, ((0, "a", 100, "all"), (4, "b", 200, "new"))), 60, None)
        self.parts(Prices((("a", 0, 0),)), Prices((("a", 0, 31),)), 60, None)
        self.parts(Prices((("a", 0, 3),)), Prices((("a", 7, 3),), ((0, "a", 0, "all"),)), 60, None)

    def test_by_hand(self):
        self.parts(Prices(KINDS), Prices((("a", 101, 0), ("b", 200, 0))), 0, (0, 0, 0, "a"))
        self.parts(Prices(KINDS), Prices((("a", 100, 0), ("b", 201, 0))), 60, (0, 0, 0, "b"))
        self.parts(Prices(KINDS), Prices((("a", 101, 0), ("b", 201, 0))), 60, (0, 0, 0, "a"))
        self.parts(Prices(KINDS), Prices(KINDS, ((7, "b", 1, "all"),)), 60, (7, 0, 0, "b"))
        self.parts(Prices(KINDS), Prices(KINDS, ((7, "b", 1, "new"),)), 60, (7, 7, 0, "b"))
        self.parts(Prices(KINDS), Prices(KINDS, ((6, "b", 1, "new"), (7, "a", 1, "all"))), 60, (6, 6, 0, "b"))
        self.parts(Prices(KINDS), Prices(KINDS, ((7, "a", 1, "new"), (7, "b", 1, "all"))), 60, (7, 0, 0, "b"))

    def test_free_days(self):
        self.parts(Prices((("a", 5, 2),)), Prices((("a", 5, 3),)), 60, (2, 0, 2, "a"))
        self.parts(Prices((("a", 5, 0),)), Prices((("a", 5, 3),)), 60, (0, 0, 0, "a"))
        self.parts(Prices((("a", 5, 30),)), Prices((("a", 5, 31),)), 60, (30, 0, 30, "a"))
        self.parts(Prices((("a", 5, 30),)), Prices((("a", 5, 31),)), 29, None)
        # Of two kinds that part on one day, the one that parts after fewer days comes first.
        self.parts(Prices((("a", 5, 2), ("b", 0, 0))), Prices((("a", 5, 3), ("b", 0, 0)), ((2, "b", 9, "all"),)), 60,
                   (2, 0, 0, "b"))
        self.parts(Prices((("a", 5, 2), ("b", 5, 2))), Prices((("a", 5, 3), ("b", 5, 4))), 60, (2, 0, 2, "a"))

    def test_the_day_begun_comes_ahead_of_ran(self):
        one = Prices((("a", 5, 1), ("b", 5, 0)))
        other = Prices((("a", 5, 1), ("b", 5, 0)), ((1, "a", 7, "all"), (1, "b", 7, "new")))
        self.parts(one, other, 60, (1, 0, 1, "a"))

    def test_paused_orders_part_too(self):
        one = Prices((("a", 5, 1),))
        other = Prices((("a", 5, 0),), ((0, "a", 0, "all"), (1, "a", 5, "all")))
        self.parts(one, other, 0, None)
        self.parts(one, other, 60, (1, 0, 0, "a"))

    def test_the_last_day(self):
        for day in (0, 1, 29, 30, 31, 59, 60):
            one, other = Prices(KINDS), Prices(KINDS, ((day, "a", 1, "all"),))
            self.parts(one, other, day, (day, 0, 0, "a"))
            if day > 0:
                self.parts(one, other, day - 1, None)
            if day < 60:
                self.parts(one, other, day + 1, (day, 0, 0, "a"))
        self.parts(Prices(KINDS), Prices(KINDS, ((61, "a", 1, "all"),)), 60, None)
        self.parts(Prices(KINDS), Prices(KINDS, ((60, "b", 1, "new"),)), 60, (60, 60, 0, "b"))

    def test_30_where_left_out(self):
        one = Prices(KINDS)
        same(self, first_parting(one, Prices(KINDS, ((30, "b", 1, "new"),))), (30, 30, 0, "b"))
        same(self, first_parting(one, Prices(KINDS, ((31, "b", 1, "all"),))), None)

    def test_large_pence(self):
        self.parts(Prices((("a", BIG, 0),)), Prices((("a", BIG - 1, 0),)), 0, (0, 0, 0, "a"))

    def test_what_is_no_prices(self):
        made = Prices(KINDS)
        wrong = wrong_things(lambda thing: isinstance(thing, Prices), KINDS, (KINDS, ()), str(made), repr(made))
        refused(self, "NoPrices", lambda one: first_parting(one, made), wrong)
        refused(self, "NoPrices", lambda other: first_parting(made, other), wrong)
        refused(self, "NoPrices", lambda one: first_parting(one, one, 61), wrong)
        refused(self, "NoPrices", lambda one: first_parting(one, made, None), wrong)
        refused(self, "NoPrices", lambda other: first_parting(made, other, -1), wrong)
        refused(self, "NoPrices", lambda one: first_parting(one, Prices((("c", 1, 0),))), wrong)

    def test_last_day_refused(self):
        made = Prices(KINDS)
        wrong = wrong_things(within(0, 60), 61, 62)
        refused(self, "NoDay", lambda last: first_parting(made, made, last), wrong)
        refused(self, "NoDay", lambda last: first_parting(made, Prices((("a", 1, 0),)), last), wrong)
        refused(self, "NoDay", lambda last: first_parting(made, Prices((("a", 1, 0), ("b", 1, 0))), last), wrong)
        same(self, first_parting(made, made, 60), None)
        same(self, first_parting(made, made, 0), None)

    def test_kinds_of_unlike_names(self):
        books = [Prices(kinds) for kinds in (KINDS, KINDS[:1], KINDS[1:], (("a", 100, 0), ("c", 200, 0)),
                                             (("a", 100, 0), ("b", 200, 0), ("c", 1, 0)))]
        for one in books:
            for other in books:
                if one != other:
                    for last in (0, 30, 60):
                        refusal(self, "NoKind", first_parting, one, other, last)
                    refusal(self, "NoKind", first_parting, one, other)

    def test_nothing_is_changed(self):
        one, other = Prices(KINDS), Prices(KINDS, ((7, "b", 1, "new"),))
        for _ in range(2):
            same(self, first_parting(one, other), (7, 7, 0, "b"))
        self.assertEqual(one, Prices(KINDS))
        self.assertEqual(other, Prices(KINDS, ((7, "b", 1, "new"),)))


if __name__ == "__main__":
    unittest.main()
