"""Points 7.1 and 7.2: a roof, its deeds, and what it tells behind each of them."""

import random
import unittest

from dayshares.late import leaners, moved
from dayshares.months import Months
from dayshares.notes import is_note
from dayshares.orders import Order
from dayshares.prices import Prices
from dayshares.roof import Roof
from tests.common import BIG, NAMES, anything, name, refusal, refused, same, within, wrong_things
from tests.draws import MANY_WORDS, due_paid

MONTHS = Months((31, 28))
PRICES = Prices((("a", 310, 0), ("b", 620, 2), ("c", 0, 0)), ((31, "a", 280, "all"), (31, "b", 560, "all")))
BEGINS = (0, "begins", "a", "ann", 0)
NOTES = (BEGINS, (3, "pauses"), (5, "resumes"), (40, "gives", "bob"))
SIXTEEN = (BEGINS,) + tuple((day, "pauses" if day & 1 else "resumes") for day in range(1, 16))
EIGHT = tuple("abcdefgh")
# Things that are == to notes of NOTES as Python compares them, and no notes.
ALMOST = [(False, "begins", "a", "ann", 0), (0, "begins", "a", "ann", False), list(BEGINS), [3, "pauses"],
          ((3, "pauses"),)]


def roof(months=MONTHS, prices=PRICES, **orders):
    """Gives a roof told the notes of each name, the names in this order."""
    made = Roof(months, prices)
    for one, notes in orders.items():
        for note in notes:
            made.tells(one, note)
    return made


def full():
    """Gives a roof of eight orders, each with a note."""
    return roof(**{one: (BEGINS,) for one in EIGHT})


def order(*notes, months=MONTHS, prices=PRICES):
    return Order(months, prices, notes)


def shows(made):
    """Gives all that a roof tells of what it keeps."""
    return (made.names_now(), [made.order_of(one) for one in made.names_now()], made.moved_now(), len(made), repr(made),
            [made.owes(holder) for holder in ("ann", "bob", "x", "y", "z")])


def due_owed(orders):
    """Gives the dict of what is paid by (holder, month) for a dict of orders, day by day."""
    owed = {}
    for one in orders.values():
        for day in range(len(one.months_of())):
            paid = due_paid(one, day)
            if paid:
                key = (paid[0], one.months_of().place_of(day)[0])
                owed[key] = owed.get(key, 0) + paid[2]
    return owed


def due_moved(before, after):
    """Gives what moved from the orders before to those after, all together."""
    one, other = due_owed(before), due_owed(after)
    rows = [(*key, other.get(key, 0) - one.get(key, 0)) for key in sorted(set(one) | set(other))]
    return [row for row in rows if row[2]]


class TestTells(unittest.TestCase):
    def test_by_hand(self):
        made = Roof(MONTHS, PRICES)
        same(self, made.tells("one", (3, "pauses")), None)
        self.assertEqual(made.order_of("one"), order((3, "pauses")))
        same(self, made.tells("one", BEGINS), None)
        self.assertEqual(made.order_of("one"), order(BEGINS, (3, "pauses")))
        made.tells("b", (371, "ends"))
        same(self, made.names_now(), ["b", "one"])
        self.assertEqual(made.order_of("one"), order(BEGINS, (3, "pauses")))
        self.assertEqual(made.order_of("b"), order((371, "ends")))

    def test_orders_told_are_not_changed_behind(self):
        made = roof(one=NOTES[:2])
        told = made.order_of("one")
        made.tells("one", NOTES[2])
        self.assertEqual(told, order(*NOTES[:2]))
        made.strikes("one", NOTES[2])
        made.back()
        self.assertEqual((told, made.order_of("one")), (order(*NOTES[:2]), order(*NOTES[:3])))

    def test_no_name(self):
        for made in (roof(), roof(one=NOTES), full(), roof(one=SIXTEEN)):
            before = shows(made)
            wrong = wrong_things(name, "one two", "One", "one1", ("one",), "abcdefghi")
            for note in (BEGINS, None, (3, "changes", "z"), SIXTEEN[3]):
                refused(self, "NoName", lambda one: made.tells(one, note), wrong)
            same(self, shows(made), before)

    def test_no_note(self):
        wrong = wrong_things(is_note, *ALMOST, (372, "ends"), (0, "stops"), (0, "begins", "a", "ann", 401),
                             (0, "changes", "A"), (True, "ends"), NOTES)
        for made in (roof(), roof(one=NOTES), full(), roof(one=SIXTEEN)):
            before = shows(made)
            for one in ("one", "ninth", "a"):
                refused(self, "NoNote", lambda note: made.tells(one, note), wrong)
            same(self, shows(made), before)

    def test_a_ninth(self):
        made = full()
        same(self, (made.names_now(), len(made)), (list(EIGHT), 8))
        before = shows(made)
        for note in (BEGINS, (9, "ends"), (3, "changes", "z"), (0, "begins", "z", "z", 0)):
            for one in ("i", "aa", "abcdefgh"):
                caught = refusal(self, "TooMany", made.tells, one, note)
                self.assertEqual((caught.many, caught.most), (9, 8))
        same(self, shows(made), before)
        made.tells("h", (1, "ends"))
        self.assertEqual(made.order_of("h"), order(BEGINS, (1, "ends")))
        made.back()
        made.strikes("c", BEGINS)
        made.tells("i", BEGINS)
        same(self, made.names_now(), ["a", "b", "d", "e", "f", "g", "h", "i"])
        caught = refusal(self, "TooMany", made.tells, "c", BEGINS)
        self.assertEqual((caught.many, caught.most), (9, 8))

    def test_twice(self):
        made = roof(one=SIXTEEN, two=NOTES, three=((3, "pauses"),))
        before = shows(made)
        for one, notes in (("one", SIXTEEN), ("two", NOTES), ("three", ((3, "pauses"),))):
            refused(self, "Twice", lambda note: made.tells(one, note), list(notes))
        same(self, shows(made), before)
        made.tells("three", NOTES[2])
        self.assertEqual(made.order_of("three"), order(*NOTES[1:3]))

    def test_a_seventeenth(self):
        made = roof(one=SIXTEEN)
        before = shows(made)
        for note in ((16, "ends"), (371, "gives", "z"), (3, "changes", "z"), (5, "begins", "z", "z", 0)):
            caught = refusal(self, "TooMany", made.tells, "one", note)
            self.assertEqual((caught.many, caught.most), (17, 16))
        same(self, shows(made), before)
        made.back()
        made.tells("one", (16, "ends"))
        self.assertEqual(made.order_of("one"), order(*SIXTEEN[:15], (16, "ends")))

    def test_no_kind(self):
        for made in (roof(), roof(one=NOTES), roof(one=SIXTEEN[:15]), roof(**{one: (BEGINS,) for one in EIGHT[:7]})):
            before = shows(made)
            for one in ("one", "a"):
                refused(self, "NoKind", lambda note: made.tells(one, note),
                        [(3, "changes", "z"), (371, "changes", "aa"), (9, "begins", "ann", "a", 0)])
            same(self, shows(made), before)

    def test_names_of_anything(self):
        made = Roof(MONTHS, PRICES)
        for at, one in enumerate(NAMES):
            if at < 8:
                made.tells(one, BEGINS)
        same(self, made.names_now(), sorted(NAMES[:8]))


class TestStrikes(unittest.TestCase):
    def test_by_hand(self):
        made = roof(one=NOTES, two=NOTES[1:3])
        same(self, made.strikes("one", NOTES[3]), None)
        self.assertEqual(made.order_of("one"), order(*NOTES[:3]))
        made.strikes("one", NOTES[2])
        made.strikes("two", NOTES[1])
        self.assertEqual(made.order_of("one"), order(*NOTES[:2]))
        self.assertEqual(made.order_of("two"), order(NOTES[2]))

    def test_an_order_without_notes_is_there_no_more(self):
        made = roof(one=(BEGINS,), two=(BEGINS,))
        made.strikes("one", BEGINS)
        same(self, (made.names_now(), len(made), repr(made)), (["two"], 1, "Roof(two 1)"))
        for call in (made.order_of, lambda one: made.strikes(one, BEGINS)):
            refusal(self, "Missing", call, "one")
        made.strikes("two", BEGINS)
        same(self, (made.names_now(), len(made), repr(made), bool(made)), ([], 0, "Roof()", False))
        self.assertEqual(made, roof())
        made.back()
        self.assertEqual(made, roof(two=(BEGINS,)))
        made.tells("one", (4, "ends"))
        self.assertEqual(made, roof(two=(BEGINS,), one=((4, "ends"),)))

    def test_no_name(self):
        made = roof(one=NOTES)
        before = shows(made)
        for note in (BEGINS, NOTES[3], None, (4, "ends")):
            refused(self, "NoName", lambda one: made.strikes(one, note), wrong_things(name, "One", ("one",)))
        same(self, shows(made), before)

    def test_missing(self):
        made = roof(one=NOTES)
        before = shows(made)
        wrong = anything() + ALMOST + [(3, "resumes"), (4, "pauses"), (0, "begins", "a", "ann", 1), (3, "changes", "z"),
                                       (372, "ends"), NOTES]
        refused(self, "Missing", lambda note: made.strikes("one", note), wrong)
        for one in ("two", "on", "onee", "ann", "a"):
            refused(self, "Missing", lambda note: made.strikes(one, note), wrong + list(NOTES))
            refused(self, "Missing", lambda note: roof().strikes(one, note), wrong + list(NOTES))
        same(self, shows(made), before)

    def test_leans(self):
        made = roof(one=NOTES, two=SIXTEEN)
        before = shows(made)
        for one, note, many in (("one", BEGINS, 3), ("one", NOTES[1], 1), ("two", BEGINS, 15)):
            self.assertEqual(len(leaners(made.order_of(one), note)), many)
            self.assertEqual(refusal(self, "Leans", made.strikes, one, note).many, many)
        same(self, shows(made), before)
        made.strikes("one", NOTES[2])
        made.strikes("one", NOTES[1])
        made.strikes("one", NOTES[3])
        made.strikes("one", BEGINS)
        same(self, made.names_now(), ["two"])


class TestBack(unittest.TestCase):
    def test_till_none_stands(self):
        made = roof(one=NOTES[:2], two=(BEGINS,))
        made.strikes("two", BEGINS)
        due = [roof(one=NOTES[:2], two=(BEGINS,)), roof(one=NOTES[:2]), roof(one=NOTES[:1]), roof()]
        for one in due:
            same(self, made.back(), None)
            self.assertEqual(made, one)
            same(self, repr(made), repr(one))
        for _ in range(2):
            refusal(self, "NoDeed", made.back)
            self.assertEqual(made, roof())
        made.tells("one", BEGINS)
        self.assertEqual(made, roof(one=(BEGINS,)))
        made.back()
        refusal(self, "NoDeed", made.back)

    def test_no_deed(self):
        made = Roof(MONTHS, PRICES)
        refusal(self, "NoDeed", made.back)
        same(self, shows(made), shows(roof()))

    def test_what_was_refused_is_no_deed(self):
        made = roof(one=NOTES[:1])
        for kind, call, note in (("Twice", made.tells, BEGINS), ("NoKind", made.tells, (3, "changes", "z")),
                                 ("NoNote", made.tells, None), ("Missing", made.strikes, (3, "pauses"))):
            refusal(self, kind, call, "one", note)
        refusal(self, "NoName", made.tells, "One", BEGINS)
        made.back()
        self.assertEqual(made, roof())
        refusal(self, "NoDeed", made.back)


class TestTold(unittest.TestCase):
    def test_order_of(self):
        made = roof(one=NOTES)
        for call in (made.order_of, roof().order_of):
            refused(self, "NoName", call, wrong_things(name, ("one",), "One"))
            refused(self, "Missing", call, ["two", "on", "onee", "a", "none", "ann"])
        told = made.order_of("one")
        self.assertIsInstance(told, Order)
        self.assertEqual((told.months_of(), told.prices_of(), told.notes_of()), (MONTHS, PRICES, NOTES))

    def test_names_now(self):
        made = roof(z=(BEGINS,), b=(BEGINS,), aa=(BEGINS,), a=(BEGINS,))
        same(self, made.names_now(), ["a", "aa", "b", "z"])
        made.names_now().append("c")
        made.names_now().clear()
        same(self, made.names_now(), ["a", "aa", "b", "z"])
        same(self, roof().names_now(), [])

    def test_owes(self):
        made = roof(one=NOTES, two=((10, "begins", "b", "bob", 0),))
        # Of one: ann 3 and 26 days of 10 pence, then 9 of 10; bob 19 of 10. Of two: 2 free days, 19 of 20, 28 of 20.
        for holder, month, due in (("ann", 0, 290), ("ann", 1, 90), ("ann", None, 380), ("bob", 0, 380),
                                   ("bob", 1, 190 + 560), ("bob", None, 1130), ("cy", 0, 0), ("cy", None, 0)):
            same(self, made.owes(holder, month), due)
        same(self, made.owes("ann"), 380)
        same(self, made.owes("bob"), 1130)
        same(self, roof().owes("ann"), 0)
        same(self, roof().owes("ann", 1), 0)

    def test_owes_refused(self):
        for made in (roof(one=NOTES), roof()):
            for month in (0, None, 2, "a"):
                refused(self, "NoName", lambda holder: made.owes(holder, month), wrong_things(name, "Ann", ("ann",)))
            refused(self, "NoName", made.owes, wrong_things(name, "Ann", ("ann",)))
            for holder in ("ann", "cy"):
                refused(self, "NoDay", lambda month: made.owes(holder, month), wrong_things(
                    lambda month: month is None or within(0, 1)(month), 2, 3))
        refused(self, "NoDay", lambda month: roof(Months((28,) * 12)).owes("ann", month), [12, -1, 13, BIG])
        same(self, roof(Months((28,) * 12), one=((330, "begins", "a", "ann", 0),)).owes("ann", 11), 60)

    def test_owes_large_pence(self):
        prices = Prices((("a", BIG, 0),))
        made = roof(Months((31,) * 12), prices, **{one: (BEGINS,) for one in EIGHT})
        same(self, made.owes("ann"), 96 * BIG)
        same(self, made.owes("ann", 11), 8 * BIG)

    def test_moved_now(self):
        made = roof()
        same(self, made.moved_now(), [])
        for one, note, due in (("one", BEGINS, [("ann", 0, 310), ("ann", 1, 280)]),
                               ("one", (21, "pauses"), [("ann", 0, -100), ("ann", 1, -280)]),
                               ("two", (30, "begins", "b", "bob", 3), [("bob", 1, 20)]),
                               ("two", (31, "gives", "ann"), [("ann", 1, 20), ("bob", 1, -20)]),
                               ("two", (31, "ends"), [("bob", 1, -20)]),
                               ("one", (371, "ends"), [])):
            if note == (31, "ends"):
                # It is read ahead of the one that gives.
                due = [("ann", 1, -20)]
            made.tells(one, note)
            same(self, made.moved_now(), due)
            same(self, made.moved_now(), due)
        made.strikes("two", (31, "gives", "ann"))
        same(self, made.moved_now(), [])
        made.strikes("two", (31, "ends"))
        same(self, made.moved_now(), [("bob", 1, 20)])
        made.back()
        same(self, made.moved_now(), [])
        made.back()
        same(self, made.moved_now(), [])
        made.back()
        same(self, made.moved_now(), [("ann", 1, -20)])
        made.back()
        same(self, made.moved_now(), [("ann", 1, 20), ("bob", 1, -20)])
        made.moved_now().clear()
        same(self, made.moved_now(), [("ann", 1, 20), ("bob", 1, -20)])
        for due in ([("bob", 1, 20)], [("ann", 0, -100), ("ann", 1, -280)], [("ann", 0, 310), ("ann", 1, 280)], []):
            made.back()
            same(self, made.moved_now(), due)
        refusal(self, "NoDeed", made.back)
        same(self, made.moved_now(), [])

    def test_moved_now_where_an_order_goes(self):
        made = roof(one=(BEGINS,), two=((0, "begins", "b", "bob", 0),))
        made.strikes("one", BEGINS)
        same(self, made.moved_now(), [("ann", 0, -310), ("ann", 1, -280)])
        made.back()
        same(self, made.moved_now(), [("bob", 0, 580), ("bob", 1, 560)])

    def test_len_and_repr(self):
        same(self, (len(roof()), repr(roof()), bool(roof())), (0, "Roof()", False))
        made = roof(b=(BEGINS,), a=NOTES[:2])
        same(self, (len(made), repr(made), bool(made)), (2, "Roof(a 2, b 1)", True))
        made = roof(b=SIXTEEN)
        same(self, (len(made), repr(made)), (1, "Roof(b 16)"))
        same(self, (len(full()), repr(full())), (8, "Roof(a 1, b 1, c 1, d 1, e 1, f 1, g 1, h 1)"))


class TestMade(unittest.TestCase):
    def test_no_months(self):
        wrong = wrong_things(lambda thing: isinstance(thing, Months), (31, 28), str(MONTHS), repr(MONTHS), [MONTHS])
        for prices in (PRICES, None, MONTHS):
            refused(self, "NoMonths", lambda months: Roof(months, prices), wrong)

    def test_no_prices(self):
        wrong = wrong_things(lambda thing: isinstance(thing, Prices), (("a", 310, 0),), str(PRICES), [PRICES])
        refused(self, "NoPrices", lambda prices: Roof(MONTHS, prices), wrong)


class TestEqual(unittest.TestCase):
    def test_where_months_prices_and_orders_are(self):
        other_prices = PRICES.with_price((3, "a", 1, "new"))
        roofs = [roof(months, prices, **told) for months in (MONTHS, Months((28, 31))) for prices in (
            PRICES, other_prices) for told in ({}, {"one": (BEGINS,)}, {"one": NOTES}, {"two": (BEGINS,)},
                                               {"one": (BEGINS,), "two": (BEGINS,)})]
        for k, one in enumerate(roofs):
            for j, other in enumerate(roofs):
                same(self, one == other, k == j)
                same(self, one != other, k != j)
                same(self, one in [None, other], k == j)
                same(self, [1, other].count(one), 1 if k == j else 0)
            same(self, roofs.index(one), k)

    def test_the_deeds_that_made_them_may_be_unlike(self):
        one = roof(one=NOTES, two=(BEGINS,))
        other = roof(two=((9, "ends"), BEGINS), one=tuple(reversed(NOTES)), three=(BEGINS,))
        same(self, one == other, False)
        other.strikes("two", (9, "ends"))
        other.strikes("three", BEGINS)
        same(self, one == other, True)
        same(self, one != other, False)
        other.back()
        same(self, one == other, False)
        same(self, one in [other], False)
        same(self, Roof(Months((31, 28)), Prices(PRICES.kinds, PRICES.notes)) == roof(), True)

    def test_equal_to_nothing_else(self):
        for made in (roof(), roof(one=NOTES), full()):
            for thing in anything() + [repr(made), made.names_now(), {"one": order(*NOTES)}, order(*NOTES), MONTHS]:
                same(self, made == thing, False)
                same(self, thing == made, False)
                same(self, made != thing, True)
            same(self, made in anything(), False)
            same(self, [*anything(), made].index(made), len(anything()))


class TestDraws(unittest.TestCase):
    def test_deed_by_deed(self):
        draw = random.Random(71)
        seen = {}
        for at in range(30):
            months = draw.choice([MONTHS, Months((28,)), Months((30, 31, 28))])
            made, beside = Roof(months, PRICES), roof(months, one=NOTES)
            due, stands = {}, []
            for _ in range(30):
                before = due
                word, due = self.deed(draw, made, due, stands, "abcdefghijk" if at & 1 else "ab")
                seen[word] = seen.get(word, 0) + 1
                if word in ("tells", "strikes"):
                    stands.append((before, due))
                self.told(made, months, due, stands)
            # A roof beside it is told nothing of this.
            same(self, shows(beside), shows(roof(months, one=NOTES)))
        for word in ("tells", "strikes", "back", "NoDeed", "Missing", "Leans", "Twice", "TooMany"):
            self.assertGreater(seen.get(word, 0), 3, (word, seen))

    def deed(self, draw, made, due, stands, names):
        """Tells a drawn deed; gives what became of it, and the dict of all names' notes that is due behind it."""
        way = draw.random()
        if way < 0.16:
            if not stands:
                refusal(self, "NoDeed", made.back)
                return "NoDeed", due
            same(self, made.back(), None)
            return "back", stands.pop()[0]
        one = draw.choice(names)
        notes = due.get(one, ())
        if way > 0.75:
            note = draw.choice([notes[0], *notes]) if notes and draw.random() < 0.9 else (7, "ends")
            if note not in notes:
                refusal(self, "Missing", made.strikes, one, note)
                return "Missing", due
            lean = leaners(order(*notes, months=made.months), note)
            if lean:
                self.assertEqual(refusal(self, "Leans", made.strikes, one, note).many, len(lean))
                return "Leans", due
            same(self, made.strikes(one, note), None)
            left = {**due, one: tuple(told for told in notes if told != note)}
            return "strikes", {told: left[told] for told in left if left[told]}
        note = self.note(draw)
        if len(due) == 8 and one not in due:
            caught = refusal(self, "TooMany", made.tells, one, note)
            self.assertEqual((caught.many, caught.most), (9, 8))
            return "TooMany", due
        if note in notes:
            refusal(self, "Twice", made.tells, one, note)
            return "Twice", due
        if len(notes) == 16:
            caught = refusal(self, "TooMany", made.tells, one, note)
            self.assertEqual((caught.many, caught.most), (17, 16))
            return "TooMany", due
        same(self, made.tells(one, note), None)
        return "tells", {**due, one: tuple(sorted((*notes, note)))}

    def note(self, draw):
        """Gives a drawn note, mostly early ones that begin."""
        if draw.random() < 0.4:
            return (draw.randint(0, 1), "begins", draw.choice("abc"), draw.choice("xy"), draw.choice([0, 5]))
        word, day = draw.choice(MANY_WORDS), draw.choice([1, 2, 3, 20, 35, 60])
        more = {"changes": "abc", "gives": "xyz"}.get(word)
        return (day, word, draw.choice(more)) if more else (day, word)

    def told(self, made, months, due, stands):
        """Checks all that 7.2 tells against the notes that are due."""
        orders = {one: order(*due[one], months=months) for one in due}
        same(self, made.names_now(), sorted(due))
        for one in due:
            self.assertEqual(made.order_of(one), orders[one])
        for one in "abk":
            if one not in due:
                refusal(self, "Missing", made.order_of, one)
        owed = due_owed(orders)
        for holder in "xyz":
            of_all = [owed.get((holder, month), 0) for month in range(len(months.all_lengths()))]
            same(self, [made.owes(holder, month) for month in range(len(of_all))], of_all)
            same(self, made.owes(holder), sum(of_all))
        rows = []
        if stands:
            states = [{one: order(*notes, months=months) for one, notes in state.items()} for state in stands[-1]]
            rows = due_moved(*states)
        same(self, made.moved_now(), rows)
        same(self, len(made), len(due))
        same(self, repr(made), "Roof(" + ", ".join(f"{one} {len(due[one])}" for one in sorted(due)) + ")")
        self.assertEqual(made, roof(months, **due))


class TestMovedNowAsMoved(unittest.TestCase):
    def test_it_is_moved_of_the_order(self):
        made = roof(one=NOTES, two=NOTES)
        before = made.order_of("one")
        made.tells("one", (20, "changes", "b"))
        same(self, made.moved_now(), moved(before, made.order_of("one")))
        self.assertTrue(made.moved_now())


if __name__ == "__main__":
    unittest.main()
