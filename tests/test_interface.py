"""The first part of the interface: where things are defined, and that they are handed in by place or by name."""

import unittest

from dayshares import months, notes, prices
from dayshares.months import Months
from dayshares.prices import Prices, first_parting
from tests.common import same

KINDS = (("a", 310, 0), ("b", 620, 2))
CHANGES = ((3, "a", 400, "all"),)
NOTES = ((1, "begins", "a", "ann", 0), (4, "changes", "b"))


class TestPlaces(unittest.TestCase):
    def test_functions_are_defined_in_their_files(self):
        for module, name in ((prices, "first_parting"), (notes, "is_note"), (notes, "are_notes"), (notes, "fates"),
                             (notes, "day_of")):
            told = getattr(module, name)
            self.assertEqual((told.__module__, told.__name__), (module.__name__, name))

    def test_classes_are_defined_in_their_files(self):
        for module, name in ((months, "Months"), (prices, "Prices")):
            told = getattr(module, name)
            self.assertEqual((told.__module__, told.__name__), (module.__name__, name))

    def test_methods_are_defined_in_the_class_itself(self):
        for told, names in (
                (Months, ("all_lengths", "place_of", "span_of", "share", "shares",
                          "__len__", "__eq__", "__repr__", "__str__")),
                (Prices, ("has_kind", "all_kinds", "all_notes", "with_price", "price_of",
                          "__len__", "__eq__", "__repr__", "__str__"))):
            for name in names:
                self.assertIn(name, vars(told))


class TestByName(unittest.TestCase):
    def test_months(self):
        made = Months(lengths=(28, 31))
        same(self, made.all_lengths(), (28, 31))
        same(self, made.place_of(day=30), (1, 2))
        same(self, made.span_of(month=1), (28, 59))
        same(self, made.share(pence=310, day=28), 10)
        same(self, made.share(day=28, pence=310), 10)
        same(self, made.shares(pence=310, first=28, behind=30), 20)
        same(self, made.shares(310, behind=30, first=28), 20)
        same(self, made.shares(310, 28, 30), 20)
        same(self, made.shares(310, behind=28), 310)
        same(self, made.shares(pence=310, first=28), 310)
        same(self, made.shares(pence=310), 620)

    def test_prices(self):
        made = Prices(kinds=KINDS, notes=CHANGES)
        self.assertEqual(made, Prices(KINDS, CHANGES))
        self.assertEqual(Prices(notes=CHANGES, kinds=KINDS), made)
        self.assertEqual(Prices(kinds=KINDS), Prices(KINDS, ()))
        same(self, made.has_kind(kind="a"), True)
        self.assertEqual(Prices(KINDS).with_price(note=CHANGES[0]), made)
        same(self, made.price_of(kind="b", day=5, begun=1, ran=2), (620, "list"))
        same(self, made.price_of(ran=1, begun=1, day=5, kind="b"), (0, "free"))
        same(self, made.price_of("b", 5, 1, 1), (0, "free"))
        same(self, made.price_of("b", 5, begun=1), (620, "list"))
        same(self, made.price_of("b", 5, ran=0), (0, "free"))
        same(self, made.price_of(kind="a", day=5), (400, "all"))

    def test_first_parting(self):
        one, other = Prices(KINDS), Prices(KINDS, CHANGES)
        same(self, first_parting(one=one, other=other, last=3), (3, 0, 0, "a"))
        same(self, first_parting(last=2, other=other, one=one), None)
        same(self, first_parting(one, other, 2), None)
        same(self, first_parting(one=one, other=other), (3, 0, 0, "a"))

    def test_notes(self):
        same(self, notes.is_note(thing=(0, "ends")), True)
        same(self, notes.are_notes(thing=()), True)
        same(self, notes.fates(notes=NOTES), ["takes", "takes"])
        same(self, notes.day_of(notes=NOTES, day=4), ("ann", "b", False, 3))
        same(self, notes.day_of(day=4, notes=NOTES), ("ann", "b", False, 3))


if __name__ == "__main__":
    unittest.main()
