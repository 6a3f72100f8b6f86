"""Points 1.1 and 1.2: months, their days, and shares of pence."""

import unittest

from dayshares.months import Months
from dayshares.prices import Prices
from tests.common import BIG, anything, pence, refusal, refused, same, within, wrong_things

SOME = ((28,), (29,), (30,), (31,), (28, 31), (31, 28), (30, 29, 28), (31,) * 12, (28,) * 12,
        (31, 28, 31, 30, 31, 30, 31, 31, 30, 31, 30, 31))


def are_lengths(thing):
    return isinstance(thing, tuple) and 1 <= len(thing) <= 12 and all(within(28, 31)(one) for one in thing)


def days_of(lengths):
    """Gives (month, place, length) of each day, by counting."""
    return [(month, place, length) for month, length in enumerate(lengths) for place in range(length)]


def due_share(told, place, length):
    return (told * (place + 1)) // length - (told * place) // length


class TestMonths(unittest.TestCase):
    def test_lengths_and_len(self):
        for lengths in SOME:
            same(self, Months(lengths).all_lengths(), lengths)
            same(self, len(Months(lengths)), sum(lengths))

    def test_one_to_twelve_months(self):
        for many in range(1, 13):
            same(self, len(Months((30,) * many)), 30 * many)
        refused(self, "NoMonths", Months, [(), (28,) * 13, (30,) * 14, (31,) * 200])

    def test_lengths_from_28_to_31(self):
        for length in (28, 29, 30, 31):
            same(self, len(Months((length,))), length)
        for length in (27, 32, 0, -28, 1, 280, BIG, -BIG, None, True, False, "28", (28,), [28], {28: 28},
                       Months((28,))):
            refused(self, "NoMonths", Months, [(length,), (length, 30), (30, length), (30, length, 30)])

    def test_what_is_no_months(self):
        refused(self, "NoMonths", Months, wrong_things(are_lengths, [28, 31], ((28, 31),), {28: 31}, "28 31"))

    def test_equal_where_their_lengths_are_alike(self):
        for one in SOME:
            for other in SOME:
                same(self, Months(one) == Months(other), one == other)
                same(self, Months(one) != Months(other), one != other)

    def test_equal_to_nothing_else(self):
        made = Months((28, 31))
        for thing in anything() + [(28, 31), [28, 31], "28 31", "Months(28, 31)", 59, Prices((("a", 28, 31),))]:
            if not isinstance(thing, Months):
                same(self, made == thing, False)
                same(self, thing == made, False)
                same(self, made != thing, True)

    def test_repr_and_str(self):
        same(self, repr(Months((28, 31))), "Months(28, 31)")
        same(self, repr(Months((28,))), "Months(28)")
        same(self, repr(Months((31, 28, 30))), "Months(31, 28, 30)")
        same(self, str(Months((28, 31))), "28 31")
        same(self, str(Months((28,))), "28")
        same(self, str(Months((31, 28, 30))), "31 28 30")

    def test_place_of_every_day(self):
        for lengths in SOME:
            made = Months(lengths)
            for day, (month, place, _) in enumerate(days_of(lengths)):
                same(self, made.place_of(day), (month, place))

    def test_place_of_the_edges(self):
        made = Months((28, 31))
        same(self, made.place_of(0), (0, 0))
        same(self, made.place_of(27), (0, 27))
        same(self, made.place_of(28), (1, 0))
        same(self, made.place_of(58), (1, 30))

    def test_place_of_no_day(self):
        for lengths in SOME:
            made = Months(lengths)
            behind = len(made)
            refused(self, "NoDay", made.place_of, wrong_things(within(0, behind - 1), behind, behind + 1, -behind))

    def test_span_of_every_month(self):
        for lengths in SOME:
            made = Months(lengths)
            for month in range(len(lengths)):
                same(self, made.span_of(month), (sum(lengths[:month]), sum(lengths[:month + 1])))
        same(self, Months((28, 31)).span_of(0), (0, 28))
        same(self, Months((28, 31)).span_of(1), (28, 59))

    def test_span_of_no_month(self):
        for lengths in SOME:
            made = Months(lengths)
            many = len(lengths)
            refused(self, "NoDay", made.span_of, wrong_things(within(0, many - 1), many, many + 1, -many))


class TestShare(unittest.TestCase):
    def test_share_by_hand(self):
        made = Months((28, 31))
        same(self, [made.share(30, day) for day in range(28)], [1] * 13 + [2] + [1] * 13 + [2])
        same(self, [made.share(1, day) for day in range(28)], [0] * 27 + [1])
        same(self, [made.share(2, day) for day in range(28)], [0] * 13 + [1] + [0] * 13 + [1])
        same(self, [made.share(1, day) for day in range(28, 59)], [0] * 30 + [1])
        same(self, [made.share(310, day) for day in range(28, 59)], [10] * 31)
        same(self, made.share(1000, 0), 35)
        same(self, made.share(1000, 1), 36)

    def test_share_of_every_day(self):
        for lengths in SOME:
            made = Months(lengths)
            for told in (0, 1, 2, 27, 28, 29, 30, 31, 999, 1000, 123457, BIG):
                for day, (_, place, length) in enumerate(days_of(lengths)):
                    same(self, made.share(told, day), due_share(told, place, length))

    def test_share_refused(self):
        made = Months((28, 31))
        refused(self, "NoPence", lambda told: made.share(told, 0), wrong_things(pence))
        refused(self, "NoDay", lambda day: made.share(0, day), wrong_things(within(0, 58), 59, 60, -59))
        refused(self, "NoDay", lambda day: made.share(BIG, day), wrong_things(within(0, 58)))

    def test_pence_are_looked_at_first(self):
        made = Months((28, 31))
        for day in wrong_things(within(0, 58)):
            refusal(self, "NoPence", made.share, -1, day)
            refusal(self, "NoPence", made.share, None, day)


class TestShares(unittest.TestCase):
    def test_a_month_comes_to_its_pence(self):
        for lengths in SOME:
            made = Months(lengths)
            for month in range(len(lengths)):
                first, behind = made.span_of(month)
                for told in (0, 1, 29, 1000, 99999, BIG):
                    same(self, made.shares(told, first, behind), told)

    def test_every_stretch(self):
        for lengths in ((28,), (31, 29), (30, 28, 31)):
            made = Months(lengths)
            for told in (0, 1, 100, 1001):
                due = [due_share(told, place, length) for _, place, length in days_of(lengths)]
                for first in range(len(made)):
                    for behind in range(first, len(made) + 1):
                        same(self, made.shares(told, first, behind), sum(due[first:behind]))

    def test_days_of_a_month_differ_by_a_penny_at_most(self):
        for length in (28, 29, 30, 31):
            made = Months((length, length))
            for told in (0, 1, 15, 1000, 4567, BIG):
                day_by_day = [made.shares(told, day, day + 1) for day in range(length)]
                self.assertLessEqual(max(day_by_day) - min(day_by_day), 1)

    def test_what_is_left_out(self):
        made = Months((28, 31))
        for told in (0, 1, 1000, BIG):
            same(self, made.shares(told), 2 * told)
            same(self, made.shares(told, None), 2 * told)
            same(self, made.shares(told, None, None), 2 * told)
            same(self, made.shares(told, 0, 59), 2 * told)
            same(self, made.shares(told, 28), told)
            same(self, made.shares(told, 28, None), told)
            same(self, made.shares(told, None, 28), told)
            same(self, made.shares(told, behind=28), told)
            same(self, made.shares(told, first=None, behind=None), 2 * told)

    def test_first_and_behind_at_the_edges(self):
        made = Months((28, 31))
        same(self, made.shares(1000, 0, 0), 0)
        same(self, made.shares(1000, None, 0), 0)
        same(self, made.shares(1000, 58, 58), 0)
        same(self, made.shares(1000, 58, 59), made.share(1000, 58))
        same(self, made.shares(1000, 58), made.share(1000, 58))
        same(self, made.shares(1000, 0, 1), 35)
        same(self, made.shares(1000, 27, 29), made.share(1000, 27) + made.share(1000, 28))

    def test_first_is_a_day(self):
        made = Months((28, 31))
        wrong = [thing for thing in wrong_things(within(0, 58), 59, 60, -59) if thing is not None]
        refused(self, "NoDay", lambda first: made.shares(1000, first), wrong)
        refused(self, "NoDay", lambda first: made.shares(1000, first, 59), wrong)
        refused(self, "NoDay", lambda first: made.shares(1000, first, first), [59, 60, -1])
        refused(self, "NoDay", lambda first: made.shares(0, first), wrong)

    def test_behind_is_from_first_to_len(self):
        made = Months((28, 31))
        wrong = [thing for thing in wrong_things(within(0, 59), 60, -1) if thing is not None]
        refused(self, "NoDay", lambda behind: made.shares(1000, 0, behind), wrong)
        refused(self, "NoDay", lambda behind: made.shares(1000, None, behind), wrong)
        refused(self, "NoDay", lambda behind: made.shares(1000, 30, behind), [29, 28, 0, -1, 60, False])
        same(self, made.shares(1000, 30, 30), 0)

    def test_pence_are_looked_at_first(self):
        made = Months((28, 31))
        refused(self, "NoPence", made.shares, wrong_things(pence))
        refused(self, "NoPence", lambda told: made.shares(told, 59, 60), wrong_things(pence))
        refused(self, "NoPence", lambda told: made.shares(told, "a", []), wrong_things(pence))
        refused(self, "NoPence", lambda told: made.shares(told, 5, 5), wrong_things(pence))

    def test_what_is_refused_changes_nothing(self):
        made = Months((28, 31))
        refusal(self, "NoDay", made.place_of, 59)
        refusal(self, "NoDay", made.shares, 5, 3, 2)
        refusal(self, "NoPence", made.share, -1, 3)
        self.assertEqual(made, Months((28, 31)))
        same(self, (len(made), str(made), made.all_lengths()), (59, "28 31", (28, 31)))
        same(self, made.shares(1000), 2000)


if __name__ == "__main__":
    unittest.main()
