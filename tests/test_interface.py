"""The interface: where things are defined, and that they are handed in by place or by name."""

import inspect
import unittest

from dayshares import desk, late, months, notes, orders, plans, prices, roof, sheets, texts, ways
from dayshares.desk import Desk
from dayshares.months import Months
from dayshares.orders import Order
from dayshares.prices import Prices, first_parting
from dayshares.roof import Roof
from dayshares.sheets import Sheet
from tests.common import same

KINDS = (("a", 310, 0), ("b", 620, 2))
CHANGES = ((3, "a", 400, "all"),)
NOTES = ((1, "begins", "a", "ann", 0), (4, "changes", "b"))


class TestPlaces(unittest.TestCase):
    def test_functions_are_defined_in_their_files(self):
        for module, names in (
                (prices, ("first_parting",)), (notes, ("is_note", "are_notes", "fates", "day_of")),
                (late, ("with_note", "without_note", "turned_by", "moved", "leaners", "free_notes", "struck_out")),
                (ways, ("way_of", "cheapest_way", "marks_hold", "marks_of")),
                (plans, ("plan_pence", "best_plan", "paper_shows", "paper_for")),
                (texts, ("note_shown", "notes_shown", "note_read", "notes_read", "prices_read"))):
            for name in names:
                told = getattr(module, name)
                self.assertEqual((told.__module__, told.__name__), (module.__name__, name))

    def test_classes_are_defined_in_their_files(self):
        for module, name in ((months, "Months"), (prices, "Prices"), (orders, "Order"), (sheets, "Sheet"),
                             (roof, "Roof"), (desk, "Desk")):
            told = getattr(module, name)
            self.assertEqual((told.__module__, told.__name__), (module.__name__, name))

    def test_methods_are_defined_in_the_class_itself(self):
        for told, names in (
                (Months, ("all_lengths", "place_of", "span_of", "share", "shares",
                          "__len__", "__eq__", "__repr__", "__str__")),
                (Prices, ("has_kind", "all_kinds", "all_notes", "with_price", "price_of",
                          "__len__", "__eq__", "__repr__", "__str__")),
                (Order, ("paid_on", "lines_of", "sum_of", "lines_hold", "months_of", "prices_of", "notes_of",
                         "__len__", "__eq__", "__repr__", "__str__")),
                (Sheet, ("lines_now", "sums", "total", "known_by", "settled", "next_sheet",
                         "__len__", "__eq__", "__repr__", "__str__")),
                (Roof, ("tells", "strikes", "back", "names_now", "order_of", "owes", "moved_now",
                        "__len__", "__eq__", "__repr__")),
                (Desk, ("say", "__len__", "__eq__", "__repr__"))):
            for name in names:
                self.assertIn(name, vars(told))

    def test_arguments_are_those_of_the_interface(self):
        for told, due in (
                (Months, "(lengths)"), (Months.place_of, "(self, day)"), (Months.span_of, "(self, month)"),
                (Months.share, "(self, pence, day)"), (Months.shares, "(self, pence, first=0, behind=None)"),
                (Prices, "(kinds, notes=None)"), (Prices.has_kind, "(self, kind)"),
                (Prices.with_price, "(self, note)"), (Prices.price_of, "(self, kind, day, begun=None, ran=None)"),
                (first_parting, "(one, other, last=30)"), (notes.is_note, "(thing)"), (notes.are_notes, "(thing)"),
                (notes.fates, "(notes)"), (notes.day_of, "(notes, day)"), (Order, "(months, prices, notes=None)"),
                (Order.paid_on, "(self, day)"), (Order.lines_of, "(self, first=0, behind=None)"),
                (Order.sum_of, "(self, first=0, behind=None, holder=None)"),
                (Order.lines_hold, "(self, thing, first=0, behind=None)"), (Sheet, "(orders, month)"),
                (Sheet.known_by, "(self, day)"), (Sheet.settled, "(self, other)"), (Sheet.next_sheet, "(self)"),
                (late.with_note, "(order, note)"), (late.without_note, "(order, note)"),
                (late.turned_by, "(order, other)"), (late.moved, "(order, other)"),
                (late.leaners, "(order, note)"), (late.free_notes, "(order)"), (late.struck_out, "(order, note)"),
                (ways.way_of, "(steps, kind, thing)"), (ways.cheapest_way, "(steps, kind, wished)"),
                (ways.marks_hold, "(steps, kind, thing)"), (ways.marks_of, "(steps, kind)"),
                (plans.plan_pence, "(steps, wishes, thing)"), (plans.best_plan, "(steps, wishes)"),
                (plans.paper_shows, "(steps, wishes, thing)"), (plans.paper_for, "(steps, wishes)"),
                (Roof, "(months, prices)"), (Roof.tells, "(self, name, note)"), (Roof.strikes, "(self, name, note)"),
                (Roof.back, "(self)"), (Roof.order_of, "(self, name)"), (Roof.owes, "(self, holder, month=None)"),
                (Roof.names_now, "(self)"), (Roof.moved_now, "(self)"), (texts.note_shown, "(note)"),
                (texts.notes_shown, "(notes)"), (texts.note_read, "(text)"), (texts.notes_read, "(text)"),
                (texts.prices_read, "(text)"), (Desk, "(months, prices)"), (Desk.say, "(self, line)")):
            self.assertEqual(str(inspect.signature(told)), due, told)


class TestByName(unittest.TestCase):
    def test_months(self):
        made = Months(lengths=(28, 31))
        same(self, made.all_lengths(), (28, 31))
        same(self, made.place_of(day=30), (1, 2))
        same(self, made.span_of(month=1), (28, 59))
        same(self, made.share(pence=310, day=28), 10)
        same(self, made.share(day=28, pence=310), 10)
        same(self, made.shares(pence=310, first=28, behind=30), 20)
        same(self, made.shares(310, behind=30, first=28), 20)
        same(self, made.shares(310, 28, 30), 20)
        same(self, made.shares(310, behind=28), 310)
        same(self, made.shares(pence=310, first=28), 310)
        same(self, made.shares(pence=310), 620)

    def test_prices(self):
        made = Prices(kinds=KINDS, notes=CHANGES)
        self.assertEqual(made, Prices(KINDS, CHANGES))
        self.assertEqual(Prices(notes=CHANGES, kinds=KINDS), made)
        self.assertEqual(Prices(kinds=KINDS), Prices(KINDS, ()))
        same(self, made.has_kind(kind="a"), True)
        self.assertEqual(Prices(KINDS).with_price(note=CHANGES[0]), made)
        same(self, made.price_of(kind="b", day=5, begun=1, ran=2), (620, "list"))
        same(self, made.price_of(ran=1, begun=1, day=5, kind="b"), (0, "free"))
        same(self, made.price_of("b", 5, 1, 1), (0, "free"))
        same(self, made.price_of("b", 5, begun=1), (620, "list"))
        same(self, made.price_of("b", 5, ran=0), (0, "free"))
        same(self, made.price_of(kind="a", day=5), (400, "all"))

    def test_first_parting(self):
        one, other = Prices(KINDS), Prices(KINDS, CHANGES)
        same(self, first_parting(one=one, other=other, last=3), (3, 0, 0, "a"))
        same(self, first_parting(last=2, other=other, one=one), None)
        same(self, first_parting(one, other, 2), None)
        same(self, first_parting(one=one, other=other), (3, 0, 0, "a"))

    def test_notes(self):
        same(self, notes.is_note(thing=(0, "ends")), True)
        same(self, notes.are_notes(thing=()), True)
        same(self, notes.fates(notes=NOTES), ["takes", "takes"])
        same(self, notes.day_of(notes=NOTES, day=4), ("ann", "b", False, 3))
        same(self, notes.day_of(day=4, notes=NOTES), ("ann", "b", False, 3))

    def test_orders(self):
        made = Order(months=Months((28, 31)), prices=Prices(KINDS), notes=NOTES)
        self.assertEqual(made, Order(Months((28, 31)), Prices(KINDS), NOTES))
        self.assertEqual(Order(notes=NOTES, prices=Prices(KINDS), months=Months((28, 31))), made)
        same(self, Order(prices=Prices(KINDS), months=Months((28, 31))).notes_of(), ())
        same(self, made.paid_on(day=1), ("ann", "a", 11, "list"))
        due = [(30, 31, "ann", "b", "list", 20)]
        same(self, made.lines_of(first=30, behind=31), due)
        same(self, made.lines_of(behind=31, first=30), due)
        same(self, made.lines_of(30, behind=31), due)
        same(self, made.lines_of(behind=2), [(1, 2, "ann", "a", "list", 11)])
        same(self, made.sum_of(first=30, behind=31, holder="ann"), 20)
        same(self, made.sum_of(holder="bob", behind=31, first=30), 0)
        same(self, made.sum_of(holder="ann", first=30, behind=31), 20)
        same(self, made.lines_hold(thing=due, first=30, behind=31), True)
        same(self, made.lines_hold(behind=31, first=30, thing=due), True)
        same(self, made.lines_hold(due, behind=31, first=30), True)
        same(self, made.lines_hold(thing=due), False)

    def test_sheets(self):
        rows = (("one", Order(Months((28, 31)), Prices(KINDS), NOTES)),)
        made = Sheet(orders=rows, month=0)
        self.assertEqual(Sheet(month=0, orders=rows), made)
        self.assertEqual(Sheet(rows, 0), made)
        same(self, made.known_by(day=1).lines_now(), [("ann", "one", 1, 28, "a", "list", 299)])
        same(self, made.settled(other=made.known_by(day=0)), [("ann", -made.total())])

    def test_late(self):
        made, note = Order(Months((28, 31)), Prices(KINDS), NOTES), (30, "ends")
        other = late.with_note(order=made, note=note)
        self.assertEqual(late.with_note(note=note, order=made), other)
        self.assertEqual(late.without_note(order=other, note=note), made)
        self.assertEqual(late.without_note(note=note, order=other), made)
        self.assertEqual(late.struck_out(order=other, note=note), made)
        self.assertEqual(late.struck_out(note=note, order=other), made)
        same(self, late.turned_by(order=made, other=other)[0], (30, ("ann", "b", 20, "list"), None))
        same(self, late.turned_by(other=made, order=other)[0], (30, None, ("ann", "b", 20, "list")))
        same(self, late.moved(order=made, other=other), [("ann", 1, -580)])
        same(self, late.moved(other=made, order=other), [("ann", 1, 580)])
        same(self, late.leaners(order=other, note=NOTES[0]), (NOTES[1], note))
        same(self, late.leaners(note=note, order=other), ())
        same(self, late.free_notes(order=other), (NOTES[1], note))

    def test_ways(self):
        steps = (("a", "b", 3), ("b", "c", 4))
        same(self, ways.way_of(steps=steps, kind="a", thing=(0, 1)), ("c", 7))
        same(self, ways.way_of(thing=(1,), kind="b", steps=steps), ("c", 4))
        same(self, ways.cheapest_way(steps=steps, kind="a", wished="c"), (7, (0, 1)))
        same(self, ways.cheapest_way(wished="a", kind="c", steps=steps), None)
        same(self, ways.marks_hold(steps=steps, kind="b", thing={"b": 0, "c": 4}), True)
        same(self, ways.marks_hold(thing={"b": 0}, kind="b", steps=steps), False)
        self.assertEqual(ways.marks_of(steps=steps, kind="b"), {"b": 0, "c": 4})
        self.assertEqual(ways.marks_of(kind="c", steps=steps), {"c": 0})

    def test_plans(self):
        steps, wishes = (("a", "b", 3), ("b", "c", 4)), (("a", "b"), ("c", "b"))
        same(self, plans.plan_pence(steps=steps, wishes=wishes, thing=(1, 0)), 7)
        same(self, plans.plan_pence(thing=(0, 1), wishes=wishes, steps=steps), 7)
        same(self, plans.best_plan(steps=steps, wishes=wishes), (7, (0, 1)))
        same(self, plans.best_plan(wishes=wishes, steps=steps), (7, (0, 1)))
        paper = plans.paper_for(steps=steps, wishes=wishes)
        same(self, plans.paper_for(wishes=wishes, steps=steps), paper)
        same(self, plans.paper_shows(steps=steps, wishes=wishes, thing=paper), 7)
        same(self, plans.paper_shows(thing=paper, wishes=wishes, steps=steps), 7)

    def test_roofs(self):
        made = Roof(prices=Prices(KINDS), months=Months((28, 31)))
        self.assertEqual(Roof(months=Months((28, 31)), prices=Prices(KINDS)), made)
        self.assertEqual(Roof(Months((28, 31)), Prices(KINDS)), made)
        same(self, made.tells(name="one", note=NOTES[0]), None)
        same(self, made.tells(note=NOTES[1], name="one"), None)
        self.assertEqual(made.order_of(name="one"), Order(Months((28, 31)), Prices(KINDS), NOTES))
        same(self, made.owes(holder="ann"), made.order_of("one").sum_of())
        same(self, made.owes(holder="ann", month=1), 620)
        same(self, made.owes(month=0, holder="ann"), made.order_of("one").sum_of(0, 28))
        same(self, made.owes("ann", None), made.owes("ann"))
        same(self, made.owes("ann", month=None), made.owes("ann"))
        same(self, made.strikes(name="one", note=NOTES[1]), None)
        same(self, made.strikes(note=NOTES[0], name="one"), None)
        same(self, len(made), 0)

    def test_texts(self):
        same(self, texts.note_shown(note=NOTES[0]), "1 begins a ann 0")
        same(self, texts.notes_shown(notes=NOTES), "1 begins a ann 0\n4 changes b")
        same(self, texts.note_read(text="4 changes b"), NOTES[1])
        same(self, texts.notes_read(text="1 begins a ann 0\n4 changes b"), NOTES)
        self.assertEqual(texts.prices_read(text="a 310 0\nb 620 2\n3 a 400 all"), Prices(KINDS, CHANGES))

    def test_desks(self):
        made = Desk(prices=Prices(KINDS), months=Months((28, 31)))
        self.assertEqual(Desk(months=Months((28, 31)), prices=Prices(KINDS)), made)
        self.assertEqual(Desk(Months((28, 31)), Prices(KINDS)), made)
        same(self, made.say(line="tell one 1 begins a ann 0"), "ok")
        same(self, made.say(line="names"), "one")


if __name__ == "__main__":
    unittest.main()
