"""Points 3.4, 3.5 and 3.6: orders, what is paid day by day, and lines."""

import random
import unittest

from dayshares.months import Months
from dayshares.orders import Order
from dayshares.prices import Prices
from dayshares.sheets import Sheet
from tests.common import BIG, anything, name, refusal, refused, same, within, wrong_things
from tests.draws import drawn_order, due_lines, due_paid, due_share

MONTHS = Months((31, 28))
# 310 and 280 pence are 10 for each day of the first and of the second month.
PRICES = Prices((("a", 310, 0), ("b", 620, 2), ("c", 0, 0)), ((5, "b", 31, "new"), (10, "a", 930, "all")))
BEGINS = (0, "begins", "a", "ann", 0)
SIXTEEN = (BEGINS,) + tuple((day, "pauses" if day & 1 else "resumes") for day in range(1, 16))


def made(*notes, months=MONTHS, prices=PRICES):
    return Order(months, prices, notes)


def paid(order, *days):
    return [order.paid_on(day) for day in days]


class TestPaidOn(unittest.TestCase):
    def test_by_hand(self):
        order = made((1, "begins", "a", "ann", 0), (3, "pauses"), (4, "gives", "bob"), (5, "resumes"),
                     (6, "changes", "b"), (8, "changes", "c"), (9, "changes", "a"), (12, "ends"))
        same(self, paid(order, *range(14)), [
            None, ("ann", "a", 10, "list"), ("ann", "a", 10, "list"), ("ann", "a", 0, "paused"),
            ("bob", "a", 0, "paused"), ("bob", "a", 10, "list"), ("bob", "b", 20, "list"), ("bob", "b", 20, "list"),
            ("bob", "c", 0, "list"), ("bob", "a", 10, "list"), ("bob", "a", 30, "all"), ("bob", "a", 30, "all"),
            None, None])
        same(self, paid(order, 30, 31, 58), [None, None, None])

    def test_the_share_is_that_of_the_day(self):
        for lengths in ((28,), (29, 31), (30, 28, 31)):
            for pence in (0, 1, 29, 100, 999, BIG):
                order = Order(Months(lengths), Prices((("a", pence, 0),)), (BEGINS,))
                for day in range(sum(lengths)):
                    same(self, order.paid_on(day), ("ann", "a", due_share(lengths, pence, day), "list"))

    def test_without_notes(self):
        for order in (Order(MONTHS, PRICES), Order(MONTHS, PRICES, ()), Order(MONTHS, PRICES, None)):
            same(self, [order.paid_on(day) for day in range(59)], [None] * 59)

    def test_unbegun(self):
        order = made((0, "changes", "b"), (0, "pauses"), (7, "begins", "a", "ann", 0))
        same(self, paid(order, 0, 6, 7, 8), [None, None, ("ann", "a", 10, "list"), ("ann", "a", 10, "list")])

    def test_terms(self):
        order = made((2, "begins", "a", "ann", 3), (3, "pauses"), (5, "resumes"))
        same(self, paid(order, *range(9)), [
            None, None, ("ann", "a", 10, "list"), ("ann", "a", 0, "paused"), ("ann", "a", 0, "paused"),
            ("ann", "a", 10, "list"), ("ann", "a", 10, "list"), None, None])
        order = made((2, "begins", "a", "ann", 3), (5, "pauses"))
        same(self, paid(order, 4, 5, 6), [("ann", "a", 10, "list"), None, None])
        order = made((2, "begins", "a", "ann", 3), (4, "pauses"))
        same(self, paid(order, 4, 5, 58), [("ann", "a", 0, "paused")] * 3)
        same(self, paid(made((0, "begins", "c", "ann", 59)), 0, 58), [("ann", "c", 0, "list")] * 2)
        same(self, paid(made((0, "begins", "c", "ann", 58)), 57, 58), [("ann", "c", 0, "list"), None])
        same(self, paid(made((0, "begins", "c", "ann", 400)), 58), [("ann", "c", 0, "list")])

    def test_first_days_free(self):
        order = made((0, "begins", "b", "ann", 0))
        same(self, paid(order, 0, 1, 2, 3), [("ann", "b", 0, "free")] * 2 + [("ann", "b", 20, "list")] * 2)
        # On how many days it ran counts, be they of another kind or ahead of a pause.
        order = made((0, "begins", "b", "ann", 0), (1, "pauses"), (4, "resumes"))
        same(self, paid(order, *range(6)), [
            ("ann", "b", 0, "free")] + [("ann", "b", 0, "paused")] * 3 + [("ann", "b", 0, "free"),
                                                                         ("ann", "b", 20, "list")])
        order = made((0, "begins", "a", "ann", 0), (1, "changes", "b"))
        same(self, paid(order, 0, 1, 2), [("ann", "a", 10, "list"), ("ann", "b", 0, "free"), ("ann", "b", 20, "list")])
        order = made((0, "begins", "a", "ann", 0), (2, "changes", "b"))
        same(self, paid(order, 2), [("ann", "b", 20, "list")])
        order = Order(MONTHS, Prices((("a", 310, 31),)), (BEGINS,))
        same(self, paid(order, 30, 31), [("ann", "a", 0, "free"), ("ann", "a", 11, "list")])

    def test_prices_for_an_order_that_began_then(self):
        notes = ((10, "a", 620, "new"), (20, "a", 930, "all"), (25, "a", 0, "new"))
        prices = Prices((("a", 310, 0),), notes)
        for begun, due in ((9, [10, 10, 30, 30]), (10, [20, 20, 30, 30]), (0, [10, 10, 30, 30])):
            order = Order(MONTHS, prices, ((begun, "begins", "a", "ann", 0),))
            same(self, [told[2] for told in paid(order, 11, 19, 20, 30)], due)
        same(self, paid(Order(MONTHS, prices, ((25, "begins", "a", "ann", 0),)), 25, 40), [("ann", "a", 0, "new")] * 2)
        # A kind that is changed for later has the price for orders that began when this one did.
        both = Prices((("a", 310, 0), ("b", 310, 0)), ((5, "b", 620, "new"),))
        same(self, paid(made(BEGINS, (8, "changes", "b"), prices=both), 8), [("ann", "b", 10, "list")])
        same(self, paid(made((5, "begins", "a", "ann", 0), (8, "changes", "b"), prices=both), 8),
             [("ann", "b", 20, "new")])

    def test_a_second_begins_does_not_begin_it(self):
        prices = Prices((("a", 310, 0),), ((5, "a", 620, "new"),))
        order = Order(MONTHS, prices, (BEGINS, (6, "begins", "a", "bob", 0)))
        same(self, paid(order, 6, 7), [("ann", "a", 10, "list")] * 2)

    def test_behind_all_notes_of_the_day(self):
        order = made(BEGINS, (0, "changes", "b"), (0, "changes", "c"), (0, "gives", "bob"), (0, "pauses"))
        same(self, paid(order, 0), [("bob", "c", 0, "paused")])
        same(self, paid(made(BEGINS, (0, "ends")), 0, 1), [None, None])
        same(self, paid(made(BEGINS, (4, "pauses"), (4, "resumes")), 4), [("ann", "a", 10, "list")])

    def test_notes_behind_all_days(self):
        same(self, paid(made((59, "begins", "a", "ann", 0)), 0, 58), [None, None])
        same(self, paid(made((371, "begins", "a", "ann", 0)), 58), [None])
        order = made((58, "begins", "a", "ann", 0), (59, "changes", "b"), (60, "pauses"), (371, "ends"))
        same(self, paid(order, 57, 58), [None, ("ann", "a", due_share((31, 28), 930, 58), "all")])

    def test_twelve_months(self):
        months = Months((31,) * 12)
        order = made((371, "begins", "c", "ann", 0), months=months)
        same(self, paid(order, 370, 371), [None, ("ann", "c", 0, "list")])

    def test_draws(self):
        draw = random.Random(34)
        for _ in range(400):
            order = drawn_order(draw)
            for day in range(len(order.months_of())):
                same(self, order.paid_on(day), due_paid(order, day))

    def test_no_day(self):
        for order in (made(), made(BEGINS)):
            refused(self, "NoDay", order.paid_on, wrong_things(within(0, 58), 59, 60))


class TestLines(unittest.TestCase):
    def due(self, order, first, behind, lines):
        same(self, order.lines_of(first, behind), lines)
        same(self, due_lines(order, first, behind), lines)

    def test_by_hand(self):
        order = made((1, "begins", "b", "ann", 0), (5, "pauses"), (7, "resumes"), (8, "gives", "bob"),
                     (9, "changes", "a"), (33, "ends"))
        self.due(order, 0, 59, [
            (1, 3, "ann", "b", "free", 0), (3, 5, "ann", "b", "list", 40), (5, 7, "ann", "b", "paused", 0),
            (7, 8, "ann", "b", "list", 20), (8, 9, "bob", "b", "list", 20), (9, 10, "bob", "a", "list", 10),
            (10, 31, "bob", "a", "all", 630), (31, 33, "bob", "a", "all", 66)])
        self.due(order, 4, 8, [(4, 5, "ann", "b", "list", 20), (5, 7, "ann", "b", "paused", 0),
                               (7, 8, "ann", "b", "list", 20)])

    def test_never_over_the_end_of_a_month(self):
        order = Order(Months((28, 29, 30)), Prices((("a", 100, 0),)), (BEGINS,))
        self.due(order, 0, 87, [(0, 28, "ann", "a", "list", 100), (28, 57, "ann", "a", "list", 100),
                                (57, 87, "ann", "a", "list", 100)])
        paused = Order(Months((28, 29)), Prices((("a", 100, 0),)), (BEGINS, (0, "pauses")))
        self.due(paused, 0, 57, [(0, 28, "ann", "a", "paused", 0), (28, 57, "ann", "a", "paused", 0)])

    def test_as_long_as_can_be(self):
        # Notes that take nothing part no line, nor does a price that turns by a rule of the same word.
        prices = Prices((("a", 310, 0),), ((5, "a", 620, "all"), (8, "a", 930, "all"), (12, "a", 1, "new")))
        order = Order(MONTHS, prices, (BEGINS, (3, "resumes"), (6, "changes", "a"), (7, "gives", "ann")))
        self.due(order, 0, 31, [(0, 5, "ann", "a", "list", 50), (5, 31, "ann", "a", "all", 750)])
        order = made(BEGINS, (3, "pauses"), (3, "resumes"), (4, "changes", "b"), (4, "changes", "c"),
                     (5, "changes", "a"), (6, "pauses"), (7, "gives", "bob"), (8, "resumes"), (9, "ends"))
        self.due(order, 0, 31, [(0, 4, "ann", "a", "list", 40), (4, 5, "ann", "c", "list", 0),
                                (5, 6, "ann", "a", "list", 10), (6, 7, "ann", "a", "paused", 0),
                                (7, 8, "bob", "a", "paused", 0), (8, 9, "bob", "a", "list", 10)])

    def test_a_day_that_is_given_on_and_back(self):
        order = made(BEGINS, (3, "gives", "bob"), (4, "gives", "ann"), (6, "ends"))
        self.due(order, 0, 31, [(0, 3, "ann", "a", "list", 30), (3, 4, "bob", "a", "list", 10),
                                (4, 6, "ann", "a", "list", 20)])

    def test_stretches(self):
        order = made((3, "begins", "a", "ann", 0), (8, "ends"))
        for first, behind, lines in (
                (0, 0, []), (0, 1, []), (3, 3, []), (3, 4, [(3, 4, "ann", "a", "list", 10)]), (8, 59, []),
                (7, 8, [(7, 8, "ann", "a", "list", 10)]), (7, 59, [(7, 8, "ann", "a", "list", 10)]), (58, 58, []),
                (58, 59, []), (0, 4, [(3, 4, "ann", "a", "list", 10)]), (4, 6, [(4, 6, "ann", "a", "list", 20)])):
            self.due(order, first, behind, lines)

    def test_left_out_and_none(self):
        order = made((3, "begins", "c", "ann", 0))
        whole = [(3, 31, "ann", "c", "list", 0), (31, 59, "ann", "c", "list", 0)]
        for told in (order.lines_of(), order.lines_of(None), order.lines_of(None, None), order.lines_of(0),
                     order.lines_of(0, None), order.lines_of(0, 59), order.lines_of(behind=None)):
            same(self, told, whole)
        same(self, order.lines_of(40), [(40, 59, "ann", "c", "list", 0)])
        same(self, order.lines_of(None, 4), [(3, 4, "ann", "c", "list", 0)])

    def test_no_lines(self):
        same(self, made().lines_of(), [])
        same(self, made(BEGINS, (0, "ends")).lines_of(), [])
        same(self, made((59, "begins", "a", "ann", 0)).lines_of(), [])

    def test_draws(self):
        draw = random.Random(35)
        for _ in range(300):
            order = drawn_order(draw)
            days = len(order.months_of())
            same(self, order.lines_of(), due_lines(order, 0, days))
            for _ in range(4):
                first = draw.randrange(days)
                behind = draw.randint(first, days)
                due = due_lines(order, first, behind)
                same(self, order.lines_of(first, behind), due)
                same(self, order.lines_hold(due, first, behind), True)
                same(self, order.sum_of(first, behind), sum(line[5] for line in due))
                for holder in "xyzu":
                    same(self, order.sum_of(first, behind, holder), sum(line[5] for line in due if line[2] == holder))

    def test_lists_told_are_the_askers_own(self):
        order = made(BEGINS)
        before = order.lines_of()
        told = order.lines_of()
        told.append("more")
        told[0] = None
        same(self, order.lines_of(), before)
        order.lines_of().clear()
        same(self, order.lines_of(), before)
        same(self, order.sum_of(0, 31), 730)

    def test_no_day(self):
        for order in (made(), made(BEGINS)):
            refused(self, "NoDay", order.lines_of, wrong_things(lambda thing: thing is None or within(0, 58)(thing),
                                                                59, 60))
            for first in (0, 1, 5, 58, None):
                low = 0 if first is None else first
                refused(self, "NoDay", lambda behind: order.lines_of(first, behind), wrong_things(
                    lambda thing: thing is None or within(low, 59)(thing), low - 1, 60))
            for first in wrong_things(lambda thing: thing is None or within(0, 58)(thing), 59):
                refusal(self, "NoDay", order.lines_of, first, 60)


class TestSumOf(unittest.TestCase):
    def setUp(self):
        self.order = made((1, "begins", "b", "ann", 0), (5, "gives", "bob"), (7, "changes", "a"), (12, "gives", "ann"))

    def test_of_all_and_of_each(self):
        same(self, self.order.sum_of(), 40 + 40 + 30 + 60 + 570 + 930)
        same(self, self.order.sum_of(holder="ann"), 40 + 570 + 930)
        same(self, self.order.sum_of(holder="bob"), 40 + 30 + 60)
        same(self, self.order.sum_of(holder="cy"), 0)
        same(self, self.order.sum_of(0, 31, "ann"), 610)
        same(self, self.order.sum_of(31, 59, "bob"), 0)
        same(self, self.order.sum_of(4, 6), 40)
        same(self, self.order.sum_of(4, 6, "ann"), 20)
        same(self, self.order.sum_of(4, 6, None), 40)
        same(self, self.order.sum_of(None, None, None), self.order.sum_of())
        same(self, self.order.sum_of(31), 930)
        same(self, self.order.sum_of(behind=5), 40)
        same(self, self.order.sum_of(6, 6), 0)
        same(self, made().sum_of(), 0)
        same(self, made().sum_of(0, 59, "ann"), 0)
        # The first day is among them where first is left out or None.
        order = made(BEGINS)
        for told in (order.sum_of(behind=1), order.sum_of(None, 1), order.sum_of(behind=1, holder="ann")):
            same(self, told, 10)
        same(self, order.sum_of(), 730 + 930)

    def test_a_whole_month_comes_to_its_price(self):
        for pence in (0, 1, 27, 999, BIG):
            order = Order(Months((28, 31, 30)), Prices((("a", pence, 0),)), (BEGINS,))
            same(self, [order.sum_of(0, 28), order.sum_of(28, 59), order.sum_of(59, 89)], [pence] * 3)
            same(self, order.sum_of(0, 17) + order.sum_of(17, 70) + order.sum_of(70), 3 * pence)

    def test_refusals(self):
        refused(self, "NoDay", self.order.sum_of, wrong_things(lambda thing: thing is None or within(0, 58)(thing), 59))
        refused(self, "NoDay", lambda behind: self.order.sum_of(6, behind),
                wrong_things(lambda thing: thing is None or within(6, 59)(thing), 5, 60))
        wrong = wrong_things(lambda thing: thing is None or name(thing), "Ann", "abcdefghi", "ann ", "`", ["ann"])
        refused(self, "NoName", lambda holder: self.order.sum_of(holder=holder), wrong)
        refused(self, "NoName", lambda holder: self.order.sum_of(3, 3, holder), wrong)
        refused(self, "NoName", lambda holder: made().sum_of(0, 59, holder), wrong)
        refused(self, "NoDay", lambda holder: self.order.sum_of(-1, None, holder), wrong)
        refused(self, "NoDay", lambda holder: self.order.sum_of(0, 60, holder), wrong)
        refused(self, "NoDay", lambda holder: self.order.sum_of(5, 4, holder), wrong)
        refused(self, "NoDay", lambda holder: self.order.sum_of(True, 4, holder), wrong)


class TestLinesHold(unittest.TestCase):
    def setUp(self):
        self.order = made((0, "begins", "c", "ann", 0), (1, "changes", "a"), (2, "gives", "bob"), (3, "ends"))
        self.lines = [(0, 1, "ann", "c", "list", 0), (1, 2, "ann", "a", "list", 10), (2, 3, "bob", "a", "list", 10)]

    def test_that_list(self):
        same(self, self.order.lines_of(), self.lines)
        for told in (self.order.lines_hold(self.lines), self.order.lines_hold(self.lines, 0, 59),
                     self.order.lines_hold(self.lines, None, None), self.order.lines_hold(self.lines, 0, 3),
                     self.order.lines_hold(self.lines[:2], 0, 2), self.order.lines_hold(self.lines[1:], 1),
                     self.order.lines_hold([], 3), self.order.lines_hold([], 2, 2), made().lines_hold([])):
            same(self, told, True)

    def test_other_lists(self):
        for lines in ([], self.lines[:2], self.lines[1:], self.lines[::-1], self.lines + [self.lines[2]],
                      self.lines[:1] + self.lines, tuple(self.lines), [list(line) for line in self.lines],
                      [tuple(self.lines)], [self.lines], self.lines + [None],
                      [(0, 2, "ann", "a", "list", 10), self.lines[2]]):
            same(self, self.order.lines_hold(lines), False)
        same(self, self.order.lines_hold(self.lines, 0, 2), False)
        same(self, self.order.lines_hold(self.lines, 1), False)
        same(self, self.order.lines_hold([], 0, 1), False)

    def test_each_thing_of_a_line(self):
        for at, line in enumerate(self.lines):
            for place in range(6):
                right = repr(line[place])
                for thing in wrong_things(lambda thing: repr(thing) == right, line[0] + 2, 3, "bob", "list"):
                    wrong = list(self.lines)
                    wrong[at] = line[:place] + (thing,) + line[place + 1:]
                    same(self, self.order.lines_hold(wrong), False)
            wrong = list(self.lines)
            wrong[at] = line[:5]
            same(self, self.order.lines_hold(wrong), False)
            wrong[at] = line + (0,)
            same(self, self.order.lines_hold(wrong), False)

    def test_a_line_in_two(self):
        order = made(BEGINS, (4, "ends"))
        same(self, order.lines_hold([(0, 4, "ann", "a", "list", 40)]), True)
        same(self, order.lines_hold([(0, 2, "ann", "a", "list", 20), (2, 4, "ann", "a", "list", 20)]), False)

    def test_truths_are_no_numbers(self):
        order = made((0, "begins", "c", "ann", 1))
        same(self, order.lines_hold([(0, 1, "ann", "c", "list", 0)]), True)
        for line in ((False, 1, "ann", "c", "list", 0), (0, True, "ann", "c", "list", 0),
                     (0, 1, "ann", "c", "list", False), (False, True, "ann", "c", "list", False)):
            same(self, order.lines_hold([line]), False)

    def test_things_of_every_kind(self):
        for thing in anything():
            same(self, self.order.lines_hold(thing), False)
            same(self, made().lines_hold(thing), isinstance(thing, list) and not thing)
        for thing in anything():
            same(self, self.order.lines_hold([thing]), False)

    def test_what_is_handed_in_is_not_changed(self):
        lines = list(self.lines)
        same(self, self.order.lines_hold(lines), True)
        same(self, lines, self.lines)

    def test_no_day(self):
        for thing in ([], self.lines, None, 3):
            refused(self, "NoDay", lambda first: self.order.lines_hold(thing, first),
                    wrong_things(lambda thing: thing is None or within(0, 58)(thing), 59))
            refused(self, "NoDay", lambda behind: self.order.lines_hold(thing, 2, behind),
                    wrong_things(lambda thing: thing is None or within(2, 59)(thing), 60))


class TestMade(unittest.TestCase):
    def test_what_it_was_made_of(self):
        order = made(BEGINS, (3, "pauses"))
        self.assertEqual(order.months_of(), MONTHS)
        self.assertEqual(order.prices_of(), PRICES)
        same(self, order.notes_of(), (BEGINS, (3, "pauses")))
        for order in (Order(MONTHS, PRICES), Order(MONTHS, PRICES, None), Order(MONTHS, PRICES, ())):
            same(self, order.notes_of(), ())

    def test_sixteen_and_a_seventeenth(self):
        for many in range(17):
            same(self, made(*SIXTEEN[:many]).notes_of(), SIXTEEN[:many])
        refused(self, "NoNotes", lambda notes: Order(MONTHS, PRICES, notes),
                [SIXTEEN + ((16, "ends"),), SIXTEEN + ((16, "ends"), (17, "ends"))])

    def test_no_months(self):
        wrong = wrong_things(lambda thing: isinstance(thing, Months), (31, 28), "31 28", repr(MONTHS))
        refused(self, "NoMonths", lambda months: Order(months, PRICES, (BEGINS,)), wrong)
        refused(self, "NoMonths", lambda months: Order(months, None, None), wrong)
        refused(self, "NoMonths", lambda months: Order(months, PRICES, 5), wrong)
        refused(self, "NoMonths", lambda months: Order(months, PRICES, ((0, "changes", "z"),)), wrong)

    def test_no_prices(self):
        wrong = wrong_things(lambda thing: isinstance(thing, Prices), (("a", 310, 0),), str(PRICES), repr(PRICES))
        refused(self, "NoPrices", lambda prices: Order(MONTHS, prices, (BEGINS,)), wrong)
        refused(self, "NoPrices", lambda prices: Order(MONTHS, prices), wrong)
        refused(self, "NoPrices", lambda prices: Order(MONTHS, prices, 5), wrong)
        refused(self, "NoPrices", lambda prices: Order(MONTHS, prices, (BEGINS, BEGINS)), wrong)

    def test_no_notes(self):
        right = ((), ((0, "ends"),))
        refused(self, "NoNotes", lambda notes: Order(MONTHS, PRICES, notes), wrong_things(
            lambda thing: thing is None or isinstance(thing, tuple) and thing in right,
            BEGINS, [BEGINS], (BEGINS, BEGINS), ((3, "ends"), BEGINS), ((372, "ends"),), ((True, "ends"),),
            (BEGINS, [1, "ends"]), ((0, "begins", "a", "ann", 401),), ((0, "changes", "A"),)))
        # NoKind is due behind NoNotes.
        refused(self, "NoNotes", lambda notes: Order(MONTHS, PRICES, notes), [
            ((0, "changes", "z"), (0, "changes", "z")), ((5, "changes", "z"), (4, "ends")),
            ((0, "changes", "z"), (372, "ends"))])

    def test_no_kind(self):
        refused(self, "NoKind", lambda notes: Order(MONTHS, PRICES, notes), [
            ((0, "begins", "z", "ann", 0),), ((0, "changes", "z"),), (BEGINS, (3, "changes", "aa")),
            (BEGINS, (3, "ends"), (5, "changes", "d")), (BEGINS, (371, "changes", "z")),
            (BEGINS, (4, "begins", "ann", "a", 0)), ((0, "changes", "a"), (0, "changes", "z"))])
        # What names no kind names none that the prices don't have.
        same(self, made((0, "begins", "a", "z", 0), (3, "gives", "zz")).notes_of(),
             ((0, "begins", "a", "z", 0), (3, "gives", "zz")))

    def test_what_is_refused_changes_nothing(self):
        notes = [list(BEGINS)]
        refusal(self, "NoNotes", Order, MONTHS, PRICES, notes)
        same(self, notes, [list(BEGINS)])
        order = made(BEGINS, (4, "pauses"))
        before = (repr(order), str(order), order.notes_of(), order.lines_of())
        refusal(self, "NoDay", order.paid_on, 59)
        refusal(self, "NoDay", order.lines_of, 0, 60)
        refusal(self, "NoName", order.sum_of, 0, 3, "A")
        same(self, (repr(order), str(order), order.notes_of(), order.lines_of()), before)
        self.assertEqual(order, made(BEGINS, (4, "pauses")))


class TestShown(unittest.TestCase):
    def test_len_counts_the_days_on_which_it_runs(self):
        for order, due in (
                (made(), 0), (made(BEGINS), 59), (made((58, "begins", "a", "ann", 0)), 1),
                (made((59, "begins", "a", "ann", 0)), 0), (made(BEGINS, (0, "ends")), 0),
                (made(BEGINS, (7, "ends")), 7), (made(BEGINS, (0, "pauses")), 0),
                (made(BEGINS, (10, "pauses"), (40, "resumes")), 29),
                (made((0, "begins", "b", "ann", 2)), 2), (made((40, "begins", "c", "ann", 5)), 5),
                (made((57, "begins", "c", "ann", 5)), 2), (made((0, "begins", "c", "ann", 5), (2, "pauses")), 2)):
            same(self, len(order), due)
            same(self, repr(order), f"Order({len(order.notes_of())} notes, {due} days)")

    def test_len_by_draws(self):
        draw = random.Random(36)
        for _ in range(100):
            order = drawn_order(draw)
            told = [order.paid_on(day) for day in range(len(order.months_of()))]
            same(self, len(order), len([one for one in told if one is not None and one[3] != "paused"]))

    def test_repr(self):
        order = Order(Months((31,)), PRICES, (BEGINS, (31, "ends")))
        same(self, repr(order), "Order(2 notes, 31 days)")
        same(self, repr(made()), "Order(0 notes, 0 days)")
        same(self, repr(made(*SIXTEEN)), f"Order(16 notes, {len(made(*SIXTEEN))} days)")

    def test_str(self):
        order = made((1, "begins", "b", "ann", 0), (4, "gives", "bob"), (5, "pauses"), (33, "ends"))
        same(self, str(order), "1 3 ann b free 0\n3 4 ann b list 20\n4 5 bob b list 20\n5 31 bob b paused 0\n"
                               "31 33 bob b paused 0")
        same(self, str(made(BEGINS, (1, "ends"))), "0 1 ann a list 10")
        for order in (made(), made((59, "begins", "a", "ann", 0)), made(BEGINS, (0, "ends"))):
            same(self, str(order), "none")

    def test_equal_where_months_prices_and_notes_are(self):
        told = [(months, prices, notes) for months in (MONTHS, Months((28, 31)), Months((31,)))
                for prices in (PRICES, Prices((("a", 310, 0), ("b", 620, 2), ("c", 0, 0))), Prices((("a", 310, 0),)))
                for notes in ((), (BEGINS,), (BEGINS, (371, "ends")), ((0, "begins", "a", "bob", 0),))]
        for one in told:
            for other in told:
                due = one == other
                same(self, Order(*one) == Order(*other), due)
                same(self, Order(*one) != Order(*other), not due)
                same(self, Order(*one) in [None, 3, Order(*other)], due)
        same(self, made() == Order(Months((31, 28)), PRICES, None), True)

    def test_equal_to_nothing_else(self):
        order = made((0, "begins", "b", "ann", 0))
        for thing in anything() + [MONTHS, PRICES, order.notes_of(), order.lines_of(), str(order), repr(order),
                                   Sheet((("a", order),), 0)]:
            same(self, order == thing, False)
            same(self, thing == order, False)
            same(self, order != thing, True)
        same(self, order in anything(), False)
        same(self, order in [*anything(), made((0, "begins", "b", "ann", 0))], True)
        same(self, made() == [], False)


if __name__ == "__main__":
    unittest.main()
