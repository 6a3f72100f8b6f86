"""Points 4.1, 4.2 and 4.3: sheets line by line, ahead, and what is settled behind."""

import random
import unittest

from dayshares.months import Months
from dayshares.orders import Order
from dayshares.prices import Prices
from dayshares.sheets import Sheet
from tests.common import anything, refusal, refused, same, within, wrong_things
from tests.draws import drawn_notes, drawn_prices, due_lines

MONTHS = Months((31, 28, 30))
PRICES = Prices((("a", 310, 0), ("b", 620, 2), ("c", 0, 0)), ((31, "a", 280, "all"), (31, "b", 560, "all")))
ONE = ((1, "begins", "a", "bob", 0), (5, "gives", "ann"), (33, "changes", "b"))
OTHER = ((0, "begins", "b", "ann", 0), (4, "pauses"), (30, "resumes"), (40, "gives", "cy"))


def order(*notes, months=MONTHS, prices=PRICES):
    return Order(months, prices, notes)


def sheet(month=0, **notes):
    """Gives the sheet of orders of these notes by their names."""
    return Sheet(tuple((name, order(*notes[name])) for name in sorted(notes)), month)


def lines_due(orders, month):
    """Gives the lines of a sheet by the words of 4.1."""
    first, behind = orders[0][1].months_of().span_of(month)
    return sorted((holder, name, start, end, kind, rule, pence) for name, one in orders
                  for start, end, holder, kind, rule, pence in due_lines(one, first, behind))


def sums_due(lines):
    holders = sorted({line[0] for line in lines})
    return [(holder, sum(line[6] for line in lines if line[0] == holder)) for holder in holders]


def drawn_orders(draw):
    """Gives one to eight drawn orders of like months, with names that rise."""
    lengths = tuple(draw.randint(28, 31) for _ in range(draw.randint(1, 3)))
    names = sorted(draw.sample(["a", "aa", "ab", "b", "roof", "x", "y", "zzzzzzzz"], draw.randint(1, 8)))
    return tuple((name, Order(Months(lengths), drawn_prices(draw), drawn_notes(draw))) for name in names)


class TestLines(unittest.TestCase):
    def test_by_hand(self):
        made = sheet(one=ONE, other=OTHER)
        same(self, made.lines_now(), [
            ("ann", "one", 5, 31, "a", "list", 260), ("ann", "other", 0, 2, "b", "free", 0),
            ("ann", "other", 2, 4, "b", "list", 40), ("ann", "other", 4, 30, "b", "paused", 0),
            ("ann", "other", 30, 31, "b", "list", 20), ("bob", "one", 1, 5, "a", "list", 40)])
        same(self, made.sums(), [("ann", 320), ("bob", 40)])
        same(self, made.total(), 360)
        made = sheet(1, one=ONE, other=OTHER)
        same(self, made.lines_now(), [
            ("ann", "one", 31, 33, "a", "all", 20), ("ann", "one", 33, 59, "b", "all", 520),
            ("ann", "other", 31, 40, "b", "all", 180), ("cy", "other", 40, 59, "b", "all", 380)])
        same(self, made.sums(), [("ann", 720), ("cy", 380)])
        same(self, made.total(), 1100)

    def test_holders_with_0_pence(self):
        made = sheet(one=((0, "begins", "c", "ann", 0), (4, "gives", "bob"), (5, "pauses")),
                     other=((0, "begins", "b", "cy", 2),))
        same(self, made.lines_now(), [("ann", "one", 0, 4, "c", "list", 0), ("bob", "one", 4, 5, "c", "list", 0),
                                      ("bob", "one", 5, 31, "c", "paused", 0), ("cy", "other", 0, 2, "b", "free", 0)])
        same(self, made.sums(), [("ann", 0), ("bob", 0), ("cy", 0)])
        same(self, made.total(), 0)

    def test_no_lines(self):
        for made in (sheet(one=()), sheet(one=(), other=()), sheet(1, one=((0, "begins", "a", "ann", 31),)),
                     sheet(0, one=((31, "begins", "a", "ann", 0),))):
            same(self, (made.lines_now(), made.sums(), made.total()), ([], [], 0))

    def test_each_month(self):
        for month in range(3):
            orders = (("one", order(*ONE)), ("other", order(*OTHER)))
            made = Sheet(orders, month)
            due = lines_due(orders, month)
            same(self, (made.lines_now(), made.sums(), made.total()),
                 (due, sums_due(due), sum(line[6] for line in due)))

    def test_draws(self):
        draw = random.Random(41)
        for _ in range(80):
            orders = drawn_orders(draw)
            for month in range(len(orders[0][1].months_of().all_lengths())):
                made = Sheet(orders, month)
                due = lines_due(orders, month)
                same(self, made.lines_now(), due)
                same(self, made.sums(), sums_due(due))
                same(self, made.total(), sum(line[6] for line in due))
                same(self, len(made), len(due))

    def test_lists_told_are_the_askers_own(self):
        made = sheet(one=ONE, other=OTHER)
        before = (made.lines_now(), made.sums(), str(made))
        made.lines_now().clear()
        made.sums().append("more")
        made.sums()[0] = None
        told = made.lines_now()
        told[0] = ("gone",)
        told.reverse()
        same(self, (made.lines_now(), made.sums(), str(made)), before)
        same(self, (len(made), made.total()), (6, 360))


class TestMade(unittest.TestCase):
    def test_one_to_eight(self):
        rows = tuple((name, order(*ONE)) for name in "abcdefghi")
        for many in range(1, 9):
            same(self, len(Sheet(rows[:many], 0)), 2 * many)
            same(self, Sheet(rows[:many], 0).total(), 300 * many)
        refused(self, "NoSheet", lambda orders: Sheet(orders, 0), [(), rows])
        refused(self, "NoSheet", lambda orders: Sheet(orders, 9), [(), rows])

    def test_names_that_do_not_rise(self):
        one, other = order(*ONE), order(*OTHER)
        refused(self, "NoSheet", lambda orders: Sheet(orders, 0), [
            (("b", one), ("a", other)), (("a", one), ("a", other)), (("a", one), ("a", one)),
            (("a", one), ("c", other), ("b", other)), (("aa", one), ("a", other)),
            (("b", one), ("c", one), ("a", one))])
        same(self, len(Sheet((("a", one), ("aa", one), ("b", other)), 0)), 8)

    def test_each_name(self):
        wrong = wrong_things(lambda thing: isinstance(thing, str) and 0 < len(thing) < 9 and thing.isalpha()
                             and thing.islower(), "one ", "o1", "`", "abcdefghi", ["one"])
        for name in wrong:
            refused(self, "NoSheet", lambda orders: Sheet(orders, 0),
                    [((name, order(*ONE)),), (("a", order(*ONE)), (name, order(*ONE)))])

    def test_each_order(self):
        wrong = wrong_things(lambda thing: isinstance(thing, Order), ONE, MONTHS, PRICES, (MONTHS, PRICES, ONE))
        for thing in wrong:
            refused(self, "NoSheet", lambda orders: Sheet(orders, 0),
                    [(("one", thing),), (("one", order(*ONE)), ("other", thing)), (("a", thing), ("b", order()))])

    def test_rows_of_another_form(self):
        one = order(*ONE)
        for row in [["one", one], ("one",), ("one", one, 0), (one, "one"), one, "one", (), None, {"one": one},
                    ("one", (one,)), (("one", one),)]:
            refused(self, "NoSheet", lambda orders: Sheet(orders, 0), [(row,), (("a", one), row)])

    def test_months_that_are_unlike(self):
        one = order(*ONE)
        for lengths in ((31, 28), (31, 28, 31), (31, 28, 30, 31), (28, 31, 30), (31,)):
            other = order(months=Months(lengths))
            refused(self, "NoSheet", lambda orders: Sheet(orders, 0), [
                (("a", one), ("b", other)), (("a", other), ("b", one)), (("a", one), ("b", one), ("c", other))])
        like = Sheet((("a", one), ("b", order(*OTHER, months=Months((31, 28, 30))))), 0)
        same(self, len(like), 6)

    def test_prices_may_be_unlike(self):
        prices = Prices((("z", 31, 0),))
        made = Sheet((("a", order(*ONE)), ("b", order((0, "begins", "z", "bob", 2), prices=prices))), 0)
        same(self, made.sums(), [("ann", 260), ("bob", 42)])

    def test_what_is_no_orders(self):
        one = order(*ONE)
        wrong = wrong_things(
            lambda thing: isinstance(thing, tuple) and bool(thing) and isinstance(thing[0], tuple)
            and isinstance(thing[0][-1], Order), [("one", one)], {"one": one}, one, ("one", one))
        for month in (0, 5, None, True):
            refused(self, "NoSheet", lambda orders: Sheet(orders, month), wrong)

    def test_no_month(self):
        for orders in ((("one", order(*ONE)),), (("a", order()), ("b", order(*OTHER)))):
            refused(self, "NoDay", lambda month: Sheet(orders, month), wrong_things(within(0, 2), 3, 4))
        refused(self, "NoDay", lambda month: Sheet((("a", order(months=Months((28,)))),), month),
                wrong_things(within(0, 0)))

    def test_no_sheet_ahead_of_no_day(self):
        for month in wrong_things(within(0, 2), 3):
            refusal(self, "NoSheet", Sheet, (), month)
            refusal(self, "NoSheet", Sheet, (("b", order()), ("a", order())), month)
            refusal(self, "NoSheet", Sheet, (("a", order()), ("b", order(months=Months((31,))))), month)

    def test_what_is_handed_in_is_not_changed(self):
        one = order(*ONE)
        orders = [("one", one)]
        refusal(self, "NoSheet", Sheet, orders, 0)
        same(self, len(orders), 1)
        made = Sheet((("one", one),), 0)
        before = str(one)
        refusal(self, "NoDay", made.known_by, 89)
        refusal(self, "NoSheet", made.settled, None)
        made.known_by(2)
        made.next_sheet()
        same(self, (str(one), repr(one), one.notes_of()), (before, "Order(3 notes, 88 days)", ONE))
        self.assertEqual(made, Sheet((("one", order(*ONE)),), 0))


class TestKnownBy(unittest.TestCase):
    def test_by_hand(self):
        made = sheet(one=ONE, other=OTHER)
        known = made.known_by(4)
        same(self, known.lines_now(), [
            ("ann", "other", 0, 2, "b", "free", 0), ("ann", "other", 2, 4, "b", "list", 40),
            ("ann", "other", 4, 31, "b", "paused", 0), ("bob", "one", 1, 31, "a", "list", 300)])
        same(self, known.sums(), [("ann", 40), ("bob", 300)])
        same(self, made.settled(known), [("ann", -280), ("bob", 260)])
        same(self, known.settled(made), [("ann", 280), ("bob", -260)])

    def test_just_the_notes_whose_day_is_not_above(self):
        made = sheet(1, one=ONE, other=OTHER)
        for day in range(89):
            due = sheet(1, one=[note for note in ONE if note[0] <= day],
                        other=[note for note in OTHER if note[0] <= day])
            self.assertEqual(made.known_by(day), due)
            same(self, str(made.known_by(day)), str(due))
        self.assertEqual(made.known_by(88), made)
        same(self, repr(made.known_by(0)), "Sheet(month 1, 1 lines)")
        same(self, made.known_by(0).next_sheet().lines_now(), [("ann", "other", 59, 89, "b", "all", 560)])

    def test_the_month_stays(self):
        for month in range(3):
            for day in (0, 30, 31, 58, 88):
                same(self, repr(sheet(month, one=((0, "begins", "c", "ann", 0),)).known_by(day)),
                     f"Sheet(month {month}, 1 lines)")

    def test_notes_behind_all_months(self):
        made = sheet(2, one=(*ONE, (100, "ends")))
        self.assertEqual(made.known_by(88), made)

    def test_ahead_and_settled_come_to_all(self):
        draw = random.Random(42)
        for _ in range(60):
            orders = drawn_orders(draw)
            months = orders[0][1].months_of()
            for month in range(len(months.all_lengths())):
                made = Sheet(orders, month)
                known = made.known_by(months.span_of(month)[0])
                told = dict(known.sums())
                for holder, pence in known.settled(made):
                    told[holder] = told.get(holder, 0) + pence
                due = dict(made.sums())
                for holder in sorted({*told, *due}):
                    same(self, told.get(holder, 0), due.get(holder, 0))

    def test_no_day(self):
        for made in (sheet(one=ONE), sheet(2, one=(), other=OTHER)):
            refused(self, "NoDay", made.known_by, wrong_things(within(0, 88), 89, 90))


class TestSettled(unittest.TestCase):
    def test_by_hand(self):
        here = sheet(one=((0, "begins", "a", "ann", 0), (10, "gives", "bob")))
        there = sheet(two=((0, "begins", "a", "bob", 0), (20, "gives", "cy")), zero=((0, "begins", "c", "dan", 0),))
        same(self, here.sums(), [("ann", 100), ("bob", 210)])
        same(self, there.sums(), [("bob", 200), ("cy", 110), ("dan", 0)])
        same(self, here.settled(there), [("ann", -100), ("bob", -10), ("cy", 110)])
        same(self, there.settled(here), [("ann", 100), ("bob", 10), ("cy", -110)])

    def test_those_of_0_are_left_out(self):
        here, there = sheet(one=ONE), sheet(one=ONE, two=((0, "begins", "c", "zed", 0),))
        for told in (here.settled(here), here.settled(there), there.settled(here),
                     sheet(one=()).settled(sheet(two=()))):
            same(self, told, [])
        same(self, here.settled(sheet(one=())), [("ann", -260), ("bob", -40)])
        same(self, sheet(one=()).settled(here), [("ann", 260), ("bob", 40)])

    def test_lists_told_are_the_askers_own(self):
        here, there = sheet(one=ONE), sheet(one=())
        here.settled(there).clear()
        same(self, here.settled(there), [("ann", -260), ("bob", -40)])

    def test_no_sheet(self):
        made = sheet(one=ONE)
        refused(self, "NoSheet", made.settled, wrong_things(
            lambda thing: False, order(*ONE), (("one", order(*ONE)),), str(made), repr(made), made.lines_now()))

    def test_unlike_months_or_another_month(self):
        made = sheet(one=ONE)
        refused(self, "NoSheet", made.settled, [
            sheet(1, one=ONE), sheet(2, one=ONE), made.next_sheet(),
            *[Sheet((("one", order(*ONE, months=Months(lengths))),), 0) for lengths in (
                (31,), (31, 28), (31, 28, 31), (31, 28, 30, 28), (30, 28, 30))]])
        same(self, made.settled(Sheet((("one", order(*ONE, months=Months((31, 28, 30)))),), 0)), [])


class TestNextSheet(unittest.TestCase):
    def test_each_month_behind(self):
        made = sheet(one=ONE, other=OTHER)
        for month in (1, 2):
            made = made.next_sheet()
            self.assertEqual(made, sheet(month, one=ONE, other=OTHER))
            same(self, made.lines_now(), sheet(month, one=ONE, other=OTHER).lines_now())
        refusal(self, "NoDay", made.next_sheet)
        refusal(self, "NoDay", Sheet((("a", order(months=Months((28,)))),), 0).next_sheet)
        self.assertEqual(made, sheet(2, one=ONE, other=OTHER))

    def test_twelve_months(self):
        made = Sheet((("a", order((0, "begins", "a", "ann", 0), months=Months((31,) * 12))),), 10)
        same(self, made.next_sheet().lines_now(), [("ann", "a", 341, 372, "a", "all", 280)])
        refusal(self, "NoDay", made.next_sheet().next_sheet)


class TestShown(unittest.TestCase):
    def test_len_repr_and_str(self):
        made = sheet(1, one=ONE, other=OTHER)
        same(self, len(made), 4)
        same(self, repr(made), "Sheet(month 1, 4 lines)")
        same(self, str(made), "ann one 31 33 a all 20\nann one 33 59 b all 520\nann other 31 40 b all 180\n"
                              "cy other 40 59 b all 380")
        same(self, repr(sheet(2, one=ONE)), "Sheet(month 2, 1 lines)")
        same(self, str(sheet(2, one=ONE)), "ann one 59 89 b all 560")

    def test_no_lines(self):
        made = sheet(2, one=())
        same(self, (len(made), repr(made), str(made)), (0, "Sheet(month 2, 0 lines)", "none"))

    def test_equal_where_months_number_and_lines_are(self):
        sheets = [sheet(month, **told) for month in (0, 1) for told in (
            {"one": ()}, {"one": ONE}, {"one": OTHER}, {"two": ONE}, {"one": ONE, "two": OTHER})]
        sheets.append(Sheet((("one", order(months=Months((31, 28)))),), 0))
        sheets.append(Sheet((("one", order(*ONE, months=Months((31, 28, 31)))),), 0))
        for k, one in enumerate(sheets):
            for j, other in enumerate(sheets):
                same(self, one == other, k == j)
                same(self, one != other, k != j)
                same(self, one in [None, other], k == j)

    def test_orders_may_be_unlike_where_lines_are_alike(self):
        for told in ({"two": ()}, {"one": (), "two": ()}, {"one": ((31, "begins", "a", "ann", 0),)}):
            same(self, sheet(0, one=()) == sheet(0, **told), True)
            same(self, sheet(0, one=()) != sheet(0, **told), False)
        same(self, sheet(one=ONE) == sheet(one=(*ONE, (371, "ends")), two=()), True)

    def test_equal_to_nothing_else(self):
        made, empty = sheet(1, one=ONE, other=OTHER), sheet(one=())
        for thing in anything() + [made.lines_now(), str(made), repr(made), order(*ONE), (("one", order(*ONE)),)]:
            for one in (made, empty):
                same(self, one == thing, False)
                same(self, thing == one, False)
                same(self, one != thing, True)
        same(self, made in anything(), False)
        same(self, made in [*anything(), sheet(1, one=ONE, other=OTHER)], True)


if __name__ == "__main__":
    unittest.main()
