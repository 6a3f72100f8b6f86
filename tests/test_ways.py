"""Points 6.1 and 6.2: steps, ways, the cheapest one, and marks."""

import itertools
import random
import unittest

from dayshares.ways import cheapest_way, marks_hold, marks_of, way_of
from tests.common import BIG, anything, name, pence, refusal, refused, same, whole, within, wrong_things

STEPS = (("a", "b", 5), ("a", "c", 1), ("b", "a", 0), ("b", "d", 2), ("c", "b", 3), ("c", "d", 9), ("e", "a", 1))
RING = (("a", "b", 0), ("b", "a", 0))
TWENTY = tuple(("abcdefghijklmnopqrst"[k], "bcdefghijklmnopqrstu"[k], k) for k in range(20))


def all_ways(steps, kind, most):
    """Gives (pence, how many steps, way, where it ends) of all ways from a kind of at most so many steps."""
    ways = [(0, 0, (), kind)]
    found = list(ways)
    for _ in range(most):
        ways = [(cost + steps[at][2], many + 1, way + (at,), steps[at][1])
                for cost, many, way, end in ways for at in range(len(steps)) if steps[at][0] == end]
        found += ways
    return found


def drawn_steps(draw, names, many):
    """Gives many steps at the most between the names."""
    pairs = list(itertools.permutations(names, 2))
    told = draw.sample(pairs, min(many, len(pairs)))
    return tuple(sorted((one, other, draw.choice([0, 0, 1, 1, 2, 3, 7])) for one, other in told))


def due_marks(steps, kind, thing):
    """Tells whether thing is marks by the words of 6.2."""
    if not isinstance(thing, dict) or thing.get(kind) != 0:
        return False
    for key in thing:
        if not isinstance(key, str) or not 0 < len(key) < 9 or not key.isalpha() or not key.islower():
            return False
        if not whole(thing[key]):
            return False
    return all(step[1] in thing and thing[step[1]] <= thing[step[0]] + step[2] for step in steps if step[0] in thing)


class TestWayOf(unittest.TestCase):
    def test_by_hand(self):
        for way, due in (((), ("a", 0)), ((0,), ("b", 5)), ((1,), ("c", 1)), ((1, 4), ("b", 4)), ((1, 5), ("d", 10)),
                         ((0, 2), ("a", 5)), ((0, 2, 1, 4, 3), ("d", 11)), ((2,), None), ((0, 0), None),
                         ((0, 1), None), ((0, 2, 3), None), ((6,), None), ((1, 4, 6), None), ((7,), None)):
            same(self, way_of(STEPS, "a", way), due)
        same(self, way_of(STEPS, "e", (6, 0)), ("b", 6))
        same(self, way_of(STEPS, "d", ()), ("d", 0))
        same(self, way_of(STEPS, "d", (0,)), None)

    def test_names_that_no_step_has(self):
        for steps in (STEPS, (), TWENTY):
            same(self, way_of(steps, "zz", ()), ("zz", 0))
            same(self, way_of(steps, "zz", (0,)), None)

    def test_none_sixty_and_sixty_one(self):
        for many in (0, 1, 2, 59, 60):
            same(self, way_of(RING, "a", (0, 1) * (many // 2) + (0,) * (many % 2)), ("ab"[many % 2], 0))
        same(self, way_of(RING, "a", (0, 1) * 30 + (0,)), None)
        same(self, way_of(RING, "a", (0, 1) * 31), None)
        costly = (("a", "b", BIG), ("b", "a", BIG))
        same(self, way_of(costly, "a", (0, 1) * 30), ("a", 60 * BIG))

    def test_twenty_steps(self):
        same(self, way_of(TWENTY, "a", tuple(range(20))), ("u", 190))
        same(self, way_of(TWENTY, "t", (19,)), ("u", 19))
        same(self, way_of(TWENTY, "a", tuple(range(21))), None)
        same(self, way_of(TWENTY, "t", (-1,)), None)

    def test_each_number(self):
        for thing in wrong_things(within(0, 1), 3, 7):
            for way in ((thing,), (0, thing), (thing, 2)):
                same(self, way_of(RING, "a", way), None)
        same(self, way_of(RING, "a", (False,)), None)
        same(self, way_of(RING, "a", (0, True)), None)
        same(self, way_of(RING, "b", (True,)), None)

    def test_things_of_every_kind(self):
        for thing in anything():
            right = isinstance(thing, tuple) and thing in ((), (0,)) and repr(thing) in ("()", "(0,)")
            due = (("a", 0) if not thing else ("b", 5)) if right else None
            same(self, way_of(STEPS, "a", thing), due)
        for thing in ([0], [], {0: 0}, ((0,),), "0", 0, (0, [2]), (None,), ("a",)):
            same(self, way_of(STEPS, "a", thing), None)

    def test_draws(self):
        draw = random.Random(60)
        for _ in range(60):
            steps = drawn_steps(draw, "abcd", draw.randint(0, 6))
            ways = {way: (end, cost) for cost, _, way, end in all_ways(steps, "a", 3)}
            for many in range(4):
                for way in itertools.product(range(len(steps)), repeat=many):
                    same(self, way_of(steps, "a", way), ways.get(way))


class TestCheapestWay(unittest.TestCase):
    def test_by_hand(self):
        for kind, wished, due in (("a", "a", (0, ())), ("a", "b", (4, (1, 4))), ("a", "c", (1, (1,))),
                                  ("a", "d", (6, (1, 4, 3))), ("b", "c", (1, (2, 1))), ("e", "d", (7, (6, 1, 4, 3))),
                                  ("a", "e", None), ("d", "a", None), ("d", "d", (0, ())), ("c", "c", (0, ()))):
            same(self, cheapest_way(STEPS, kind, wished), due)

    def test_of_several_the_fewest_steps(self):
        steps = (("a", "b", 1), ("a", "d", 3), ("b", "c", 1), ("c", "d", 1))
        same(self, cheapest_way(steps, "a", "d"), (3, (1,)))
        steps = (("a", "b", 0), ("a", "z", 0), ("b", "c", 0), ("c", "z", 0))
        same(self, cheapest_way(steps, "a", "z"), (0, (1,)))
        # Fewer pence come ahead of fewer steps.
        steps = (("a", "b", 1), ("a", "d", 4), ("b", "c", 1), ("c", "d", 1))
        same(self, cheapest_way(steps, "a", "d"), (3, (0, 2, 3)))

    def test_of_several_the_least(self):
        steps = (("a", "b", 1), ("a", "c", 1), ("b", "d", 1), ("c", "d", 1))
        same(self, cheapest_way(steps, "a", "d"), (2, (0, 2)))
        steps = (("a", "b", 2), ("a", "c", 1), ("b", "d", 0), ("c", "d", 1))
        same(self, cheapest_way(steps, "a", "d"), (2, (0, 2)))
        steps = (("a", "c", 0), ("a", "d", 0), ("c", "z", 0), ("d", "b", 0), ("d", "z", 0))
        same(self, cheapest_way(steps, "a", "z"), (0, (0, 2)))
        steps = (("x", "b", 0), ("x", "c", 0), ("b", "y", 1), ("c", "y", 0))
        same(self, cheapest_way(tuple(sorted(steps)), "x", "y"), (0, (3, 1)))

    def test_ways_that_go_in_a_ring(self):
        same(self, cheapest_way(RING, "a", "a"), (0, ()))
        same(self, cheapest_way(RING, "a", "b"), (0, (0,)))
        same(self, cheapest_way(RING, "b", "a"), (0, (1,)))
        same(self, cheapest_way(RING, "a", "c"), None)

    def test_two_names_alike(self):
        for steps in ((), RING, STEPS, TWENTY):
            for kind in ("a", "d", "zz"):
                same(self, cheapest_way(steps, kind, kind), (0, ()))

    def test_names_that_no_step_has(self):
        for steps in ((), RING, STEPS):
            same(self, cheapest_way(steps, "a", "zz"), None)
            same(self, cheapest_way(steps, "zz", "a"), None)
            same(self, cheapest_way(steps, "zz", "yy"), None)

    def test_twenty_steps_one_behind_the_other(self):
        same(self, cheapest_way(TWENTY, "a", "u"), (190, tuple(range(20))))
        same(self, cheapest_way(TWENTY, "u", "a"), None)
        back = tuple(sorted((other, one, fee) for one, other, fee in TWENTY))
        same(self, cheapest_way(back, "u", "a"), (190, tuple(range(19, -1, -1))))

    def test_large_fees(self):
        steps = (("a", "b", BIG), ("a", "c", BIG - 1), ("b", "d", BIG), ("c", "b", 1), ("c", "d", BIG))
        same(self, cheapest_way(steps, "a", "b"), (BIG, (0,)))
        same(self, cheapest_way(steps, "a", "d"), (2 * BIG - 1, (1, 4)))

    def test_draws_against_all_ways(self):
        draw = random.Random(61)
        for _ in range(150):
            names = "abcd"
            steps = drawn_steps(draw, names, draw.randint(0, 8))
            for kind in names:
                ways = all_ways(steps, kind, 4)
                marks = {}
                for wished in names:
                    due = min(((cost, many, way) for cost, many, way, end in ways if end == wished), default=None)
                    same(self, cheapest_way(steps, kind, wished), None if due is None else (due[0], due[2]))
                    if due is not None:
                        marks[wished] = due[0]
                        same(self, way_of(steps, kind, due[2]), (wished, due[0]))
                self.assertEqual(marks_of(steps, kind), marks)
                same(self, marks_hold(steps, kind, marks), True)


class TestMarks(unittest.TestCase):
    def test_by_hand(self):
        self.assertEqual(marks_of(STEPS, "a"), {"a": 0, "b": 4, "c": 1, "d": 6})
        self.assertEqual(marks_of(STEPS, "d"), {"d": 0})
        self.assertEqual(marks_of(STEPS, "e"), {"a": 1, "b": 5, "c": 2, "d": 7, "e": 0})
        self.assertEqual(marks_of((), "zz"), {"zz": 0})
        self.assertEqual(marks_of(STEPS, "zz"), {"zz": 0})
        self.assertEqual(marks_of(TWENTY, "s"), {"s": 0, "t": 18, "u": 37})
        self.assertEqual(marks_of(RING, "b"), {"a": 0, "b": 0})

    def test_kinds_of_what_is_told(self):
        told = marks_of(STEPS, "a")
        self.assertIs(type(told), dict)
        for key in told:
            self.assertIs(type(key), str)
            self.assertIs(type(told[key]), int)

    def test_dicts_told_are_the_askers_own(self):
        before = marks_of(STEPS, "a")
        told = marks_of(STEPS, "a")
        told["a"] = 9
        told.pop("b")
        same(self, marks_of(STEPS, "a"), before)

    def test_marks_hold(self):
        right = {"a": 0, "b": 4, "c": 1, "d": 6}
        for more in ({}, {"d": 5}, {"b": 3, "d": 5}, {"b": 0, "c": 0, "d": 0}, {"zz": 0}, {"zz": BIG}, {"zz": -BIG},
                     {"c": -3, "b": 0, "d": 2}, {"d": -BIG}, {"e": -1 + 1}, {"e": 100}, {"e": -1}):
            same(self, marks_hold(STEPS, "a", {**right, **more}), True)
        for more in ({"a": 1}, {"a": -1}, {"b": 5}, {"d": 7}, {"c": 2}, {"c": 0, "b": 4}, {"b": 3}, {"e": -2},
                     {"b": -1}, {"a": None}):
            same(self, marks_hold(STEPS, "a", {**right, **more}), False)
        for key in right:
            less = dict(right)
            del less[key]
            same(self, marks_hold(STEPS, "a", less), False)
        same(self, marks_hold(STEPS, "e", right), False)
        same(self, marks_hold(STEPS, "d", {"d": 0}), True)
        same(self, marks_hold(STEPS, "d", {"d": 0, "e": 0}), False)
        same(self, marks_hold((), "a", {"a": 0}), True)
        same(self, marks_hold((), "a", {"a": 0, "b": -7}), True)
        same(self, marks_hold((), "a", {}), False)
        same(self, marks_hold((), "a", {"b": 0}), False)

    def test_each_mark_and_each_name(self):
        for thing in wrong_things(lambda thing: whole(thing)):
            same(self, marks_hold((), "a", {"a": 0, "b": thing}), False)
            same(self, marks_hold((), "a", {"a": thing}), False)
        same(self, marks_hold((), "a", {"a": False}), False)
        same(self, marks_hold(RING, "a", {"a": 0, "b": False}), False)
        for key in (None, True, 0, 5, "", "A", "a1", "abcdefghi", "a ", "a\n", (), ("a",), ("a", 0)):
            same(self, marks_hold((), "a", {"a": 0, key: 0}), False)
            same(self, marks_hold((), "a", {key: 0}), False)

    def test_things_of_every_kind(self):
        for thing in anything() + [[("a", 0)], ("a", 0), (("a", 0),), [["a", 0]], "a 0", {("a",): 0}]:
            same(self, marks_hold((), "a", thing), False)
            same(self, marks_hold(STEPS, "a", thing), False)

    def test_draws(self):
        draw = random.Random(62)
        for _ in range(300):
            steps = drawn_steps(draw, "abcd", draw.randint(0, 8))
            marks = marks_of(steps, "a")
            same(self, marks_hold(steps, "a", marks), True)
            for _ in range(5):
                told = dict(marks)
                for key in draw.sample("abcde", draw.randint(1, 2)):
                    if draw.random() < 0.3:
                        told.pop(key, None)
                    else:
                        told[key] = told.get(key, 3) + draw.randint(-2, 2)
                before = repr(told)
                same(self, marks_hold(steps, "a", told), due_marks(steps, "a", told))
                same(self, repr(told), before)


class TestRefusals(unittest.TestCase):
    def calls(self):
        return [lambda steps: way_of(steps, "a", ()), lambda steps: cheapest_way(steps, "a", "b"),
                lambda steps: marks_hold(steps, "a", {"a": 0}), lambda steps: marks_of(steps, "a"),
                lambda steps: way_of(steps, None, None), lambda steps: cheapest_way(steps, "A", "b"),
                lambda steps: cheapest_way(steps, "a", 3), lambda steps: marks_hold(steps, 0, None),
                lambda steps: marks_of(steps, [])]

    def refused_steps(self, things):
        for call in self.calls():
            refused(self, "NoSteps", call, things)

    def test_none_to_twenty(self):
        for many in range(21):
            due = "abcdefghijklmnopqrstu"[:many + 1]
            self.assertEqual(sorted(marks_of(TWENTY[:many], "a")), list(due))
        self.refused_steps([TWENTY + (("u", "v", 0),), TWENTY + (("u", "v", 0), ("v", "w", 0))])

    def test_fees(self):
        for fee in (0, 1, BIG):
            self.assertEqual(marks_of((("a", "b", fee),), "a"), {"a": 0, "b": fee})
        self.refused_steps([(("a", "b", fee),) for fee in wrong_things(pence)])

    def test_each_name_of_a_step(self):
        wrong = wrong_things(name, "Ann", "abcdefghi", "a1", "`", ["a"])
        self.refused_steps([(("a", thing, 0),) for thing in wrong] + [((thing, "b", 0),) for thing in wrong])
        self.refused_steps([(("a", "a", 0),), (("a", "b", 0), ("b", "b", 0))])
        self.assertEqual(marks_of((("abcdefgh", "zzzzzzzz", 4),), "abcdefgh"), {"abcdefgh": 0, "zzzzzzzz": 4})

    def test_rows_of_another_form(self):
        self.refused_steps([(row,) for row in wrong_things(lambda thing: False, ("a", "b"), ("a", "b", 0, 0),
                                                           ["a", "b", 0], (0, "a", "b"), ("a", 0, "b"))])
        self.refused_steps([(("a", "b", 0), row) for row in (None, ("b", "c"), ["b", "c", 0], "c", 5)])

    def test_they_rise_by_unlike_pairs(self):
        self.refused_steps([
            (("b", "a", 0), ("a", "b", 0)), (("a", "c", 0), ("a", "b", 0)), (("a", "b", 0), ("a", "b", 0)),
            (("a", "b", 0), ("a", "b", 1)), (("a", "b", 1), ("a", "b", 0)), RING[::-1], TWENTY[::-1],
            (("a", "b", 0), ("c", "d", 0), ("b", "c", 0)), (("a", "b", 0), ("a", "b", 5), ("b", "a", 0))])
        self.assertEqual(marks_of((("a", "b", 9), ("a", "c", 1), ("b", "a", 0)), "a"), {"a": 0, "b": 9, "c": 1})

    def test_what_is_no_steps(self):
        self.refused_steps(wrong_things(lambda thing: isinstance(thing, tuple) and not thing, list(STEPS), STEPS[0],
                                        [("a", "b", 0)], {"a": ("b", 0)}))

    def test_no_name(self):
        wrong = wrong_things(name, "Ann", "abcdefghi", "a1", "a ", "a\n", "`", ["a"])
        for steps in ((), STEPS):
            for call in (lambda kind: way_of(steps, kind, ()), lambda kind: way_of(steps, kind, None),
                         lambda kind: cheapest_way(steps, kind, "a"), lambda kind: cheapest_way(steps, kind, "A"),
                         lambda wished: cheapest_way(steps, "a", wished), lambda kind: marks_of(steps, kind),
                         lambda wished: cheapest_way(steps, "zz", wished), lambda both: cheapest_way(steps, both, both),
                         lambda kind: marks_hold(steps, kind, {"a": 0}), lambda kind: marks_hold(steps, kind, None)):
                refused(self, "NoName", call, wrong)

    def test_what_is_handed_in_is_not_changed(self):
        marks, steps = {"a": 0, "b": 0}, [list(step) for step in RING]
        same(self, marks_hold(RING, "a", marks), True)
        refusal(self, "NoSteps", marks_hold, steps, "a", marks)
        same(self, (marks, steps), ({"a": 0, "b": 0}, [["a", "b", 0], ["b", "a", 0]]))
        for _ in range(2):
            same(self, cheapest_way(STEPS, "a", "d"), (6, (1, 4, 3)))


if __name__ == "__main__":
    unittest.main()
