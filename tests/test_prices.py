"""Points 2.1, 2.2 and 2.3: prices, price notes, and what a kind costs on a day."""

import unittest

from dayshares.months import Months
from dayshares.prices import Prices
from tests.common import BIG, anything, name, pence, refusal, refused, same, within, wrong_things

KINDS = (("basic", 310, 2), ("plus", 620, 0))
NOTES = ((5, "basic", 400, "all"),)
SIX = tuple((kind, 100, 0) for kind in "abcdef")
TWELVE = tuple((10 * k, "basic", 100 + k, "all" if k & 1 else "new") for k in range(1, 13))


def names_in(kinds):
    return [kind for kind, _, _ in kinds]


def due_price(kinds, notes, kind, day, begun, ran):
    """Gives (pence, rule) by the words of 2.3."""
    own = [row for row in kinds if row[0] == kind][0]
    if ran < own[2]:
        return (0, "free")
    bearing = [note for note in notes if note[1] == kind
               and (note[0] <= day if note[3] == "all" else note[0] <= begun)]
    if not bearing:
        return (own[1], "list")
    return max(bearing)[2:]


class TestKinds(unittest.TestCase):
    def made_of(self, kinds):
        made = Prices(kinds)
        same(self, made.all_kinds(), names_in(kinds))
        same(self, len(made), len(kinds))
        for kind, told, free in kinds:
            same(self, made.price_of(kind, 40, 0), (told, "list"))
            same(self, made.price_of(kind, 40, 0, free), (told, "list"))
            if free:
                same(self, made.price_of(kind, 40, 0, free - 1), (0, "free"))

    def test_one_to_six(self):
        for many in range(1, 7):
            self.made_of(SIX[:many])
        refused(self, "NoPrices", Prices, [(), SIX + (("g", 100, 0),), SIX + (("g", 100, 0), ("h", 100, 0))])

    def test_the_edges_of_each_thing(self):
        self.made_of((("a", 0, 0),))
        self.made_of((("abcdefgh", BIG, 31),))
        self.made_of((("a", 1, 31), ("aa", 0, 1), ("b", 2, 0), ("z", 1, 30)))

    def test_each_thing_wrong(self):
        for kind in wrong_things(name, "abcdefghi", "Basic", "b1", "b ", " b", "b\n", "a_b", "[", "`", "{", "@"):
            refused(self, "NoPrices", Prices, [((kind, 310, 2),), (("a", 310, 2), (kind, 310, 2))])
        for told in wrong_things(pence):
            refused(self, "NoPrices", Prices, [(("basic", told, 2),), (("a", 310, 2), ("basic", told, 2))])
        for free in wrong_things(within(0, 31)):
            refused(self, "NoPrices", Prices, [(("basic", 310, free),), (("a", 310, 2), ("basic", 310, free))])

    def test_rows_of_another_form(self):
        for row in wrong_things(lambda thing: thing == ("a", 1, 0), ("basic", 310), ("basic", 310, 2, 0),
                                ["basic", 310, 2], ("basic",), (310, "basic", 2), ("basic", 2, "310")):
            refused(self, "NoPrices", Prices, [(row,), (("a", 310, 2), row), (row, ("zz", 310, 2))])

    def test_they_rise_by_unlike_names(self):
        refused(self, "NoPrices", Prices, [
            (("b", 1, 0), ("a", 2, 1)), (("a", 1, 0), ("a", 1, 0)), (("a", 1, 0), ("a", 2, 0)),
            (("a", 1, 0), ("a", 1, 1)), (("a", 2, 0), ("a", 1, 0)), (("a", 1, 0), ("c", 1, 0), ("b", 1, 0)),
            (("b", 1, 0), ("c", 1, 0), ("a", 1, 0)), (("aa", 1, 0), ("a", 1, 0)),
            (("a", 1, 0), ("b", 1, 0), ("b", 2, 0)), SIX[::-1]])
        self.made_of((("a", 9, 9), ("b", 1, 1)))

    def test_what_is_no_kinds(self):
        right = (("a", 1, 0),)
        refused(self, "NoPrices", Prices, wrong_things(lambda thing: thing == right, [("a", 1, 0)], list(KINDS),
                                                       {"a": (1, 0)}, KINDS[0]))
        refused(self, "NoPrices", lambda kinds: Prices(kinds, NOTES), wrong_things(lambda thing: False))
        refused(self, "NoPrices", lambda kinds: Prices(kinds, ()), wrong_things(lambda thing: thing == right))


class TestPriceNotes(unittest.TestCase):
    def made_of(self, notes):
        made = Prices(KINDS, notes)
        same(self, made.all_notes(), notes)
        same(self, made.all_kinds(), ["basic", "plus"])

    def test_none_to_twelve(self):
        for many in range(13):
            self.made_of(TWELVE[:many])
        refused(self, "NoPrices", lambda notes: Prices(KINDS, notes),
                [TWELVE + ((200, "basic", 1, "all"),), TWELVE + ((200, "basic", 1, "all"), (201, "plus", 1, "all"))])

    def test_none_where_left_out(self):
        for made in (Prices(KINDS), Prices(KINDS, None), Prices(KINDS, ()), Prices(KINDS, notes=None)):
            same(self, made.all_notes(), ())
            same(self, made.price_of("plus", 5), (620, "list"))

    def test_the_edges_of_each_thing(self):
        self.made_of(((0, "basic", 0, "all"), (371, "plus", BIG, "new")))
        self.made_of(((0, "basic", BIG, "new"), (0, "plus", 0, "new"), (371, "basic", 0, "all")))

    def test_each_thing_wrong(self):
        def made(notes):
            return Prices(KINDS, notes)
        for day in wrong_things(within(0, 371), 372, 373):
            refused(self, "NoPrices", made, [((day, "basic", 400, "all"),), NOTES + ((day, "plus", 400, "all"),)])
        for kind in wrong_things(lambda thing: thing == "basic", "abc", "basi", "basicc", "", "plu"):
            refused(self, "NoPrices", made, [((5, kind, 400, "all"),), NOTES + ((6, kind, 400, "all"),)])
        for told in wrong_things(pence):
            refused(self, "NoPrices", made, [((5, "basic", told, "all"),), NOTES + ((6, "basic", told, "all"),)])
        for word in wrong_things(lambda thing: thing in ("all", "new"), "old", "All", "list", "free", "allnew", ""):
            refused(self, "NoPrices", made, [((5, "basic", 400, word),), NOTES + ((6, "basic", 400, word),)])

    def test_rows_of_another_form(self):
        for row in wrong_things(lambda thing: False, (9, "basic", 400), (9, "basic", 400, "all", 0), (9,),
                                [9, "basic", 400, "all"], ("basic", 9, 400, "all"), (9, "basic", "all", 400)):
            refused(self, "NoPrices", lambda notes: Prices(KINDS, notes), [(row,), NOTES + (row,), (row,) + NOTES])

    def test_they_rise(self):
        refused(self, "NoPrices", lambda notes: Prices(KINDS, notes), [
            ((5, "basic", 1, "all"), (4, "basic", 1, "all")), ((5, "plus", 1, "all"), (5, "basic", 1, "all")),
            ((5, "basic", 1, "all"), (5, "basic", 1, "all")), ((10, "basic", 1, "all"), (9, "plus", 2, "new")),
            ((1, "basic", 1, "all"), (3, "basic", 1, "all"), (2, "basic", 1, "all"))])
        self.made_of(((4, "plus", 1, "new"), (5, "basic", 1, "all")))

    def test_no_two_of_one_day_and_kind(self):
        refused(self, "NoPrices", lambda notes: Prices(KINDS, notes), [
            ((5, "basic", 1, "all"), (5, "basic", 2, "all")), ((5, "basic", 1, "all"), (5, "basic", 1, "new")),
            ((1, "plus", 1, "all"), (5, "basic", 1, "all"), (5, "basic", 2, "new")),
            ((5, "basic", 1, "all"), (5, "basic", 2, "new"), (5, "plus", 1, "all"))])
        self.made_of(((5, "basic", 1, "all"), (5, "plus", 1, "all")))
        self.made_of(((5, "basic", 1, "all"), (6, "basic", 1, "all")))

    def test_what_is_no_price_notes(self):
        right = [None, (), ((0, "a", 1, "all"),)]
        refused(self, "NoPrices", lambda notes: Prices((("a", 1, 0),), notes),
                wrong_things(lambda thing: isinstance(thing, (tuple, type(None))) and thing in right,
                             [(0, "a", 1, "all")], (0, "a", 1, "all"), {}))


class TestShown(unittest.TestCase):
    def test_equal_where_kinds_and_price_notes_are_alike(self):
        kinds = (KINDS, KINDS[:1], (("basic", 311, 2), KINDS[1]), (("basic", 310, 3), KINDS[1]),
                 (("basid", 310, 2), KINDS[1]))
        for one in kinds:
            for other in kinds:
                same(self, Prices(one) == Prices(other), one == other)
                same(self, Prices(one) != Prices(other), one != other)
        notes = ((), NOTES, ((6, "basic", 400, "all"),), ((5, "plus", 400, "all"),), ((5, "basic", 401, "all"),),
                 ((5, "basic", 400, "new"),), NOTES + ((7, "plus", 1, "new"),))
        for one in notes:
            for other in notes:
                same(self, Prices(KINDS, one) == Prices(KINDS, other), one == other)
                same(self, Prices(KINDS, one) != Prices(KINDS, other), one != other)
        same(self, Prices(KINDS) == Prices(KINDS, None), True)

    def test_equal_to_nothing_else(self):
        made = Prices(KINDS, NOTES)
        for thing in anything() + [KINDS, (KINDS, NOTES), list(KINDS), str(made), repr(made), Months((28,))]:
            same(self, made == thing, False)
            same(self, thing == made, False)
            same(self, made != thing, True)

    def test_len_and_repr(self):
        same(self, len(Prices(KINDS, NOTES)), 2)
        same(self, repr(Prices(KINDS, NOTES)), "Prices(2 kinds, 1 notes)")
        same(self, repr(Prices(KINDS[:1])), "Prices(1 kinds, 0 notes)")
        same(self, repr(Prices(SIX)), "Prices(6 kinds, 0 notes)")
        same(self, repr(Prices(KINDS, TWELVE)), "Prices(2 kinds, 12 notes)")

    def test_str(self):
        same(self, str(Prices(KINDS[:1])), "basic 310 2")
        same(self, str(Prices(KINDS)), "basic 310 2\nplus 620 0")
        same(self, str(Prices(KINDS, NOTES)), "basic 310 2\nplus 620 0\n5 basic 400 all")
        same(self, str(Prices(KINDS[1:], ((0, "plus", 0, "new"), (371, "plus", BIG, "all")))),
             f"plus 620 0\n0 plus 0 new\n371 plus {BIG} all")


class TestAsked(unittest.TestCase):
    def test_has_kind(self):
        made = Prices(KINDS, NOTES)
        for kind, due in (("basic", True), ("plus", True), ("basi", False), ("basicc", False), ("a", False),
                          ("all", False), ("zzzzzzzz", False)):
            same(self, made.has_kind(kind), due)
        for k in range(6):
            same(self, Prices(SIX[:k + 1]).has_kind("abcdef"[k]), True)
            same(self, Prices(SIX[:k] + SIX[k + 1:]).has_kind("abcdef"[k]), False)
        refused(self, "NoName", made.has_kind, wrong_things(name, "abcdefghi", "Basic", "b1", "basic ", "plus\n", "`"))

    def test_all_kinds_is_the_askers_own(self):
        made = Prices(KINDS, NOTES)
        told = made.all_kinds()
        same(self, told, ["basic", "plus"])
        told.append("zero")
        told[0] = "gone"
        same(self, made.all_kinds(), ["basic", "plus"])
        same(self, made.has_kind("basic"), True)
        made.all_kinds().clear()
        same(self, made.all_kinds(), ["basic", "plus"])
        same(self, len(made), 2)

    def test_all_notes(self):
        same(self, Prices(KINDS).all_notes(), ())
        same(self, Prices(KINDS, NOTES).all_notes(), NOTES)
        same(self, Prices(KINDS, TWELVE).all_notes(), TWELVE)


class TestWithPrice(unittest.TestCase):
    def test_it_is_put_in_its_place(self):
        there = ((5, "basic", 400, "all"), (9, "plus", 500, "new"))
        made = Prices(KINDS, there)
        for note in ((0, "basic", 1, "all"), (5, "plus", 0, "new"), (4, "plus", 9, "all"), (7, "basic", BIG, "new"),
                     (9, "basic", 400, "all"), (10, "plus", 500, "new"), (371, "basic", 0, "all")):
            told = made.with_price(note)
            same(self, told.all_notes(), tuple(sorted(there + (note,))))
            self.assertEqual(told, Prices(KINDS, tuple(sorted(there + (note,)))))
            self.assertEqual(made, Prices(KINDS, there))
        same(self, made.all_notes(), there)

    def test_one_behind_the_other(self):
        made = Prices(KINDS)
        for k, note in enumerate(TWELVE[::-1]):
            made = made.with_price(note)
            same(self, made.all_notes(), TWELVE[11 - k:])

    def test_it_bears(self):
        made = Prices(KINDS).with_price((5, "basic", 400, "all"))
        same(self, made.price_of("basic", 5, 0), (400, "all"))
        same(self, made.price_of("basic", 4, 0), (310, "list"))

    def test_none_of_these_kinds(self):
        made = Prices(KINDS, NOTES)
        right = (0, "basic", 1, "all")
        refused(self, "NoPrices", made.with_price, wrong_things(
            lambda thing: thing == right, (372, "basic", 1, "all"), (-1, "basic", 1, "all"), (True, "basic", 1, "all"),
            (6, "other", 1, "all"), (6, "Basic", 1, "all"), (6, ["basic"], 1, "all"), (6, "basic", -1, "all"),
            (6, "basic", True, "all"), (6, "basic", 1, "old"), (6, "basic", 1, ["all"]), (6, "basic", 1),
            (6, "basic", 1, "all", 0), [6, "basic", 1, "all"], ((6, "basic", 1, "all"),)))

    def test_one_of_its_day_and_kind_is_there(self):
        made = Prices(KINDS, ((5, "basic", 400, "all"), (9, "plus", 500, "new")))
        refused(self, "NoPrices", made.with_price, [
            (5, "basic", 400, "all"), (5, "basic", 400, "new"), (5, "basic", 1, "all"), (5, "basic", 900, "new"),
            (9, "plus", 500, "new"), (9, "plus", 0, "all")])

    def test_a_thirteenth(self):
        made = Prices(KINDS, TWELVE)
        for note in ((10, "plus", 1, "all"), (0, "basic", 1, "all"), (371, "basic", 1, "new")):
            caught = refusal(self, "TooMany", made.with_price, note)
            self.assertEqual((caught.many, caught.most), (13, 12))
        same(self, made.all_notes(), TWELVE)
        same(self, len(Prices(KINDS, TWELVE[:11]).with_price(TWELVE[11]).all_notes()), 12)

    def test_no_prices_ahead_of_too_many(self):
        made = Prices(KINDS, TWELVE)
        refused(self, "NoPrices", made.with_price, [
            TWELVE[0], TWELVE[11], (10, "basic", 1, "all"), (11, "other", 1, "all"), (372, "basic", 1, "all"),
            (11, "basic", 1, "old"), None, (), []])

    def test_what_is_refused_changes_nothing(self):
        made = Prices(KINDS, TWELVE)
        refusal(self, "TooMany", made.with_price, (0, "basic", 1, "all"))
        refusal(self, "NoPrices", made.with_price, (10, "basic", 1, "all"))
        refusal(self, "NoKind", made.price_of, "other", 0)
        self.assertEqual(made, Prices(KINDS, TWELVE))
        same(self, (repr(made), made.all_notes()), ("Prices(2 kinds, 12 notes)", TWELVE))


class TestPriceOf(unittest.TestCase):
    def test_every_question_of_a_few_days(self):
        kinds = (("a", 100, 0), ("b", 200, 3), ("c", 0, 1))
        notes = ((0, "b", 210, "new"), (2, "a", 90, "new"), (2, "b", 150, "all"), (4, "a", 300, "all"),
                 (4, "c", 50, "new"), (5, "a", 80, "new"), (6, "b", 140, "new"), (7, "a", 300, "new"),
                 (7, "c", 0, "all"), (9, "a", 10, "all"))
        for told in (notes, notes[::2], notes[1::2], notes[:3], notes[3:7], ()):
            made = Prices(kinds, told)
            for kind in "abc":
                for day in range(12):
                    for begun in range(day + 1):
                        for ran in range(day - begun + 1):
                            same(self, made.price_of(kind, day, begun, ran),
                                 due_price(kinds, told, kind, day, begun, ran))

    def test_an_all_note_bears_from_its_day_on(self):
        made = Prices(KINDS, ((5, "plus", 400, "all"),))
        for begun in (0, 3, 4):
            same(self, made.price_of("plus", 4, begun), (620, "list"))
            same(self, made.price_of("plus", 5, begun), (400, "all"))
            same(self, made.price_of("plus", 371, begun), (400, "all"))
        same(self, made.price_of("plus", 5, 5), (400, "all"))
        same(self, made.price_of("basic", 9, 0), (310, "list"))

    def test_a_new_note_bears_on_orders_that_begin_from_its_day_on(self):
        made = Prices(KINDS, ((5, "plus", 400, "new"),))
        for day in (5, 6, 371):
            same(self, made.price_of("plus", day, 4), (620, "list"))
            same(self, made.price_of("plus", day, 0), (620, "list"))
            same(self, made.price_of("plus", day, 5), (400, "new"))
        same(self, made.price_of("plus", 9, 6), (400, "new"))
        same(self, made.price_of("plus", 4, 4), (620, "list"))

    def test_the_last_note_that_bears(self):
        made = Prices(KINDS, ((2, "plus", 900, "all"), (5, "plus", 100, "new"), (8, "plus", 500, "all")))
        same(self, made.price_of("plus", 1, 0), (620, "list"))
        same(self, made.price_of("plus", 6, 0), (900, "all"))
        same(self, made.price_of("plus", 6, 5), (100, "new"))
        same(self, made.price_of("plus", 6, 4), (900, "all"))
        same(self, made.price_of("plus", 8, 0), (500, "all"))
        same(self, made.price_of("plus", 8, 5), (500, "all"))
        same(self, made.price_of("plus", 7, 7), (100, "new"))

    def test_first_days_are_free(self):
        made = Prices(KINDS, ((0, "basic", 400, "all"), (0, "plus", 0, "all")))
        same(self, made.price_of("basic", 0), (0, "free"))
        same(self, made.price_of("basic", 1, 0), (0, "free"))
        same(self, made.price_of("basic", 2, 0), (400, "all"))
        same(self, made.price_of("basic", 9, 0, 0), (0, "free"))
        same(self, made.price_of("basic", 9, 0, 1), (0, "free"))
        same(self, made.price_of("basic", 9, 0, 2), (400, "all"))
        same(self, made.price_of("basic", 9, 7), (400, "all"))
        same(self, made.price_of("basic", 9, 8), (0, "free"))
        same(self, made.price_of("plus", 0), (0, "all"))
        long = Prices((("a", 7, 31), ("b", 0, 31)))
        same(self, long.price_of("a", 30, 0), (0, "free"))
        same(self, long.price_of("a", 31, 0), (7, "list"))
        same(self, long.price_of("b", 30, 0), (0, "free"))
        same(self, long.price_of("b", 31, 0), (0, "list"))

    def test_what_is_left_out(self):
        made = Prices(KINDS, ((5, "plus", 400, "new"),))
        for day in (0, 1, 4, 5, 371):
            due = (400, "new") if day >= 5 else (620, "list")
            same(self, made.price_of("plus", day), due)
            same(self, made.price_of("plus", day, None), due)
            same(self, made.price_of("plus", day, None, None), due)
            same(self, made.price_of("plus", day, None, 0), due)
            same(self, made.price_of("plus", day, day), due)
            same(self, made.price_of("plus", day, 0), (620, "list"))
            same(self, made.price_of("basic", day), (0, "free"))
        same(self, made.price_of("basic", 7, 0, None), (310, "list"))
        same(self, made.price_of("basic", 7, 6, None), (0, "free"))
        same(self, made.price_of("basic", 7, 0, 0), (0, "free"))

    def test_large_pence(self):
        same(self, Prices((("a", BIG, 0),), ((1, "a", BIG - 1, "all"),)).price_of("a", 0), (BIG, "list"))
        same(self, Prices((("a", BIG, 0),), ((1, "a", BIG - 1, "all"),)).price_of("a", 1), (BIG - 1, "all"))

    def test_no_kind_comes_first(self):
        made = Prices(KINDS, NOTES)
        wrong = wrong_things(lambda thing: thing == "basic", "other", "basi", "basicc", "Plus", "plus ", "abcdefghi")
        refused(self, "NoKind", lambda kind: made.price_of(kind, 5), wrong)
        refused(self, "NoKind", lambda kind: made.price_of(kind, 5, 3, 1), wrong)
        refused(self, "NoKind", lambda kind: made.price_of(kind, 372, 373, -1), wrong)
        refused(self, "NoKind", lambda kind: made.price_of(kind, "day", None, []), wrong)
        refused(self, "NoKind", lambda kind: made.price_of(kind, 5, 6), wrong)

    def test_day_refused(self):
        made = Prices(KINDS, NOTES)
        for kind in ("basic", "plus"):
            refused(self, "NoDay", lambda day: made.price_of(kind, day), wrong_things(within(0, 371), 372))
            refused(self, "NoDay", lambda day: made.price_of(kind, day, 0, 0), wrong_things(within(0, 371), 372))
            same(self, made.price_of(kind, 371)[0] >= 0, True)

    def test_begun_refused(self):
        made = Prices(KINDS, NOTES)
        wrong = [thing for thing in wrong_things(within(0, 30), 31) if thing is not None]
        refused(self, "NoDay", lambda begun: made.price_of("plus", 30, begun), wrong)
        refused(self, "NoDay", lambda begun: made.price_of("plus", 30, begun, 0), wrong)
        refused(self, "NoDay", lambda begun: made.price_of("plus", 0, begun), [1, -1, 371, False, True])
        same(self, made.price_of("plus", 30, 30), (620, "list"))
        same(self, made.price_of("plus", 0, 0), (620, "list"))

    def test_ran_refused(self):
        made = Prices(KINDS, NOTES)
        wrong = [thing for thing in wrong_things(within(0, 5), 6) if thing is not None]
        refused(self, "NoDay", lambda ran: made.price_of("plus", 30, 25, ran), wrong)
        refused(self, "NoDay", lambda ran: made.price_of("plus", 30, 0, ran), [31, -1, 372, False])
        refused(self, "NoDay", lambda ran: made.price_of("plus", 30, None, ran), [1, 30, -1, False])
        refused(self, "NoDay", lambda ran: made.price_of("plus", 30, 30, ran), [1, -1, True, "0"])
        same(self, made.price_of("plus", 30, 25, 5), (620, "list"))
        same(self, made.price_of("plus", 30, 0, 30), (620, "list"))


if __name__ == "__main__":
    unittest.main()
