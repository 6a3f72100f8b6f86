"""Points 6.3 and 6.4: wishes, plans, the best one, and papers that show what it comes to."""

import itertools
import random
import unittest

from dayshares.plans import best_plan, paper_for, paper_shows, plan_pence
from tests.common import BIG, anything, name, refusal, refused, same, whole, within, wrong_things

STEPS = (("a", "b", 5), ("a", "c", 1), ("b", "a", 0), ("b", "d", 2), ("c", "b", 3), ("c", "d", 9), ("e", "a", 1))
TWENTY = tuple(("abcdefghijklmnopqrst"[k], "bcdefghijklmnopqrstu"[k], k) for k in range(20))
WISHES = (("a", "c"), ("b", "d"))
CALLS = (lambda steps, wishes: plan_pence(steps, wishes, (0, 1)), best_plan, paper_for,
         lambda steps, wishes: paper_shows(steps, wishes, ("lack", (0,))))


def due_fees(steps, wishes):
    """Gives for each of the kinds what the cheapest ways to the wished ones come to, by one name after the other."""
    names = sorted({one for step in steps for one in step[:2]} | set(wishes[0]) | set(wishes[1]))
    fees = {(one, one): 0 for one in names}
    for one, other, fee in steps:
        fees[one, other] = min(fee, fees.get((one, other), fee))
    for by in names:
        for one, other in itertools.product(names, repeat=2):
            if (one, by) in fees and (by, other) in fees:
                fee = fees[one, by] + fees[by, other]
                fees[one, other] = min(fee, fees.get((one, other), fee))
    return [[fees.get((kind, wished)) for wished in wishes[1]] for kind in wishes[0]]


def due_plans(fees):
    """Gives the rising list of (pence, plan) of all plans."""
    plans = []
    for plan in itertools.permutations(range(len(fees))):
        told = [fees[at][place] for at, place in enumerate(plan)]
        if None not in told:
            plans.append((sum(told), plan))
    return sorted(plans)


def due_shows(fees, thing):
    """Gives what a paper shows by the words of 6.4, way by way, of what has the form of one."""
    if thing[0] == "lack":
        reached = {place for at in thing[1] for place in range(len(fees)) if fees[at][place] is not None}
        return "none" if len(reached) < len(thing[1]) else None
    for at, place in itertools.product(range(len(fees)), repeat=2):
        if fees[at][place] is not None and thing[1][at] + thing[2][place] > fees[at][place]:
            return None
    return sum(thing[1]) + sum(thing[2])


def drawn_case(draw):
    """Gives steps and wishes of one to six names, most often such that there are ways to many."""
    names = "abcdef"[:draw.randint(2, 6)] + "gh"
    pairs = list(itertools.permutations(names, 2))
    sizes = draw.choice([[0], [0, 1], [0, 1, 2, 3, 7], [BIG, BIG - 1, BIG - 7, 10 ** 29], [5, 50, 500, 5000]])
    told = draw.sample(pairs, min(draw.randint(0, 20), len(pairs)))
    steps = tuple(sorted((one, other, draw.choice(sizes)) for one, other in told))
    many = draw.randint(1, 6)
    return steps, tuple(tuple(draw.choice(names) for _ in range(many)) for _ in range(2))


class TestPlanPence(unittest.TestCase):
    def test_by_hand(self):
        # From a to b 4, to d 6; from c to b 3, to d 5.
        same(self, plan_pence(STEPS, WISHES, (0, 1)), 9)
        same(self, plan_pence(STEPS, WISHES, (1, 0)), 9)
        same(self, plan_pence(STEPS, (("a",), ("a",)), (0,)), 0)
        same(self, plan_pence(STEPS, (("a",), ("e",)), (0,)), None)
        same(self, plan_pence(STEPS, (("a", "e"), ("e", "a")), (0, 1)), None)
        same(self, plan_pence(STEPS, (("a", "e"), ("e", "a")), (1, 0)), 0)
        same(self, plan_pence((), (("zz", "y"), ("y", "zz")), (1, 0)), 0)
        same(self, plan_pence((), (("zz", "y"), ("y", "zz")), (0, 1)), None)

    def test_what_is_no_plan(self):
        for thing in ((), (0,), (1,), (0, 0), (1, 1), (0, 2), (-1, 0), (2, 1), (1, 2), (0, 1, 2), (0, 1, 1), [0, 1],
                      {0: 1, 1: 0}, ((0, 1),), (0, (1,)), "01", ("0", "1"), (0, "b"), (None, 0), (0, None), (0, BIG),
                      (False, True), (0, True), (False, 1), (True, 0), (1, False), ((0,), (1,)), (0, [1])):
            same(self, plan_pence(STEPS, WISHES, thing), None)

    def test_things_of_every_kind(self):
        for thing in anything():
            due = 4 if isinstance(thing, tuple) and repr(thing) == "(0,)" else None
            same(self, plan_pence(STEPS, (("a",), ("b",)), thing), due)
            same(self, plan_pence(STEPS, WISHES, thing), None)
            for plan in ((thing, 0), (0, thing), (thing, 1), (1, thing)):
                due = 9 if whole(thing) and sorted(plan) == [0, 1] else None
                same(self, plan_pence(STEPS, WISHES, plan), due)

    def test_kinds_and_wished_ones_twice(self):
        wishes = (("a", "a", "c"), ("d", "b", "b"))
        for plan, due in (((0, 1, 2), 13), ((1, 0, 2), 13), ((1, 2, 0), 13), ((0, 1, 1), None)):
            same(self, plan_pence(STEPS, wishes, plan), due)

    def test_large_fees(self):
        steps = (("a", "b", BIG), ("b", "c", BIG))
        same(self, plan_pence(steps, (("a", "a"), ("c", "b")), (0, 1)), 3 * BIG)
        same(self, plan_pence(TWENTY, (("a", "b"), ("u", "t")), (0, 1)), 190 + 171)

    def test_draws(self):
        draw = random.Random(63)
        for _ in range(60):
            steps, wishes = drawn_case(draw)
            plans = {plan: cost for cost, plan in due_plans(due_fees(steps, wishes))}
            places = range(len(wishes[0]))
            for plan in itertools.product(places, repeat=len(places)) if len(places) < 4 else \
                    itertools.permutations(places):
                same(self, plan_pence(steps, wishes, plan), plans.get(plan))


class TestBestPlan(unittest.TestCase):
    def test_by_hand(self):
        same(self, best_plan(STEPS, WISHES), (9, (0, 1)))
        same(self, best_plan(STEPS, (("c", "a"), ("d", "b"))), (9, (0, 1)))
        same(self, best_plan(STEPS, (("a", "e"), ("e", "a"))), (0, (1, 0)))
        same(self, best_plan(STEPS, (("b", "a"), ("a", "d"))), (2, (1, 0)))
        same(self, best_plan(STEPS, (("a",), ("e",))), None)
        same(self, best_plan(STEPS, (("a", "b"), ("e", "a"))), None)

    def test_of_several_the_least(self):
        for many in range(1, 7):
            places = tuple(range(many))
            same(self, best_plan(STEPS, (("a",) * many, ("a",) * many)), (0, places))
            same(self, best_plan(STEPS, (("a",) * many, ("b",) * many)), (4 * many, places))
        # As cheap is (2, 1, 0).
        steps = (("a", "x", 2), ("a", "y", 1), ("a", "z", 1), ("b", "x", 1), ("b", "y", 1), ("b", "z", 2),
                 ("c", "x", 1), ("c", "y", 2), ("c", "z", 1))
        same(self, best_plan(steps, (("a", "b", "c"), ("x", "y", "z"))), (3, (1, 0, 2)))

    def test_the_nearest_first_is_not_best(self):
        steps = (("a", "x", 1), ("a", "y", 2), ("b", "x", 1), ("b", "y", 9))
        same(self, best_plan(steps, (("a", "b"), ("x", "y"))), (3, (1, 0)))
        same(self, best_plan(steps[:3], (("a", "b"), ("x", "y"))), (3, (1, 0)))

    def test_kinds_no_step_has(self):
        same(self, best_plan((), (("a", "b", "c"), ("c", "a", "b"))), (0, (1, 2, 0)))
        same(self, best_plan((), (("a", "a", "b"), ("b", "a", "b"))), None)
        same(self, best_plan((), (("a", "a", "b"), ("a", "b", "a"))), (0, (0, 2, 1)))

    def test_draws(self):
        draw = random.Random(631)
        found = {True: 0, False: 0}
        for _ in range(300):
            steps, wishes = drawn_case(draw)
            plans = due_plans(due_fees(steps, wishes))
            due = plans[0] if plans else None
            same(self, best_plan(steps, wishes), due)
            found[due is None] += 1
            if due:
                same(self, plan_pence(steps, wishes, due[1]), due[0])
        self.assertGreater(min(found.values()), 60)


class TestPaperShows(unittest.TestCase):
    def test_prices_by_hand(self):
        for rows, columns, due in (
                ((0, 0), (0, 0), 0), ((0, -1), (4, 6), 9), ((4, 3), (0, 2), 9), ((0, 0), (4, 5), None),
                ((1, 0), (3, 5), 9), ((0, 0), (3, 5), 8), ((-BIG, -BIG), (0, 0), -2 * BIG),
                ((BIG, BIG), (4 - BIG, 5 - BIG), None), ((BIG, BIG), (3 - BIG, 5 - BIG), 8),
                ((BIG, BIG - 1), (4 - BIG, 6 - BIG), 9), ((5, 0), (0, 0), None), ((0, 0), (0, 6), None)):
            same(self, paper_shows(STEPS, WISHES, ("prices", rows, columns)), due)

    def test_lack_by_hand(self):
        wishes = (("a", "d", "d"), ("d", "d", "e"))
        for places, due in (((0,), None), ((1,), None), ((0, 1), None), ((1, 2), None), ((0, 1, 2), "none"), ((), None),
                            ((0, 2, 1), None), ((0, 0, 1), None), ((0, 1, 3), None), ((-1, 0, 1), None),
                            ((0, 1, 2, 3), None)):
            same(self, paper_shows(STEPS, wishes, ("lack", places)), due)
        same(self, paper_shows(STEPS, (("a", "d"), ("b", "e")), ("lack", (1,))), "none")
        same(self, paper_shows(STEPS, (("a", "d"), ("b", "e")), ("lack", (0,))), None)
        same(self, paper_shows(STEPS, (("a", "d"), ("b", "e")), ("lack", (0, 1))), "none")

    def test_wished_ones_alike_are_so_many(self):
        same(self, paper_shows(STEPS, (("a", "a"), ("b", "b")), ("lack", (0, 1))), None)
        same(self, paper_shows(STEPS, (("a", "a"), ("b", "e")), ("lack", (0, 1))), "none")

    def test_to_what_there_is_no_way_nothing_is_held(self):
        wishes = (("a", "d"), ("d", "e"))
        same(self, paper_shows(STEPS, wishes, ("prices", (0, 0), (0, BIG))), BIG)
        same(self, paper_shows(STEPS, wishes, ("prices", (6, 0), (0, BIG))), BIG + 6)
        same(self, paper_shows(STEPS, wishes, ("prices", (7, 0), (0, BIG))), None)
        same(self, paper_shows(STEPS, wishes, ("prices", (6, 1), (0, BIG))), None)

    def test_a_paper_of_prices_where_there_is_no_plan(self):
        same(self, paper_shows((), (("a",), ("b",)), ("prices", (7,), (-3,))), 4)
        same(self, paper_shows((), (("a",), ("b",)), ("prices", (-7,), (7,))), 0)
        same(self, paper_shows((), (("a",), ("b",)), ("lack", (0,))), "none")

    def test_what_is_no_paper(self):
        rows = (0, 0)
        for thing in ((), ("prices",), ("lack",), ("prices", rows), ("lack", (0,), (1,)), ("prices", rows, rows, rows),
                      ["prices", rows, rows], ("prices", [0, 0], rows), ("prices", rows, [0, 0]),
                      ("Prices", rows, rows), ("lack", rows, rows), ("prices", (0,), rows), ("prices", rows, (0,)),
                      ("prices", rows, (0, 0, 0)),
                      ("prices", (0, 0, 0), rows), ("prices", (), ()), ("prices", (0, None), rows), (rows, rows),
                      ("prices", (0, "0"), rows), ("prices", (0, (0,)), rows), ("prices", (False, 0), rows),
                      ("prices", rows, (0, True)), ("prices", rows, (True, 0)), ("", rows, rows), (None, rows, rows),
                      {"prices": rows}, "prices", "lack", "none", ("none",), (0, rows, rows), ("prices", 0, 0)):
            same(self, paper_shows(STEPS, WISHES, thing), None)
        wishes = (("d", "a"), ("b", "e"))
        same(self, paper_shows(STEPS, wishes, ("lack", (0,))), "none")
        for thing in (("lack", [0]), ["lack", (0,)], ("lack", 0), ("lack", (False,)), ("lack", (False, 1)),
                      ("lack", (0, True)), ("lack", ("0",)), ("lack", (None,)), ("lack", ((0,),)), ("lack", {0: 0}),
                      ("lack", "0"), ("lack", None), ("prices", (0,)), ("lack", (0,), ()), ("Lack", (0,)), (0, (0,)),
                      ("lack", (0, 0)), ("lack", (1, 0)), ("lack", (0, 2)), ("lack", (-1,)), ("lack", (-2, 0))):
            same(self, paper_shows(STEPS, wishes, thing), None)

    def test_things_of_every_kind(self):
        for thing in anything():
            same(self, paper_shows(STEPS, WISHES, thing), None)
            for paper in ((thing, (0, 0), (0, 0)), ("prices", thing, (0, 0)), ("prices", (0, 0), thing),
                          (thing, (0, 1)), ("lack", thing), (thing, thing), (thing, thing, thing)):
                same(self, paper_shows(STEPS, WISHES, paper), None)
            due = thing if whole(thing) and thing <= 3 else None
            same(self, paper_shows(STEPS, WISHES, ("prices", (0, thing), (0, 0))), due)
            due = "none" if whole(thing) and thing == 0 else None
            same(self, paper_shows(STEPS, (("d", "a"), ("b", "e")), ("lack", (thing,))), due)

    def test_draws(self):
        draw = random.Random(64)
        seen = {}
        for _ in range(150):
            steps, wishes = drawn_case(draw)
            fees = due_fees(steps, wishes)
            many = len(fees)
            for _ in range(12):
                rows, columns = [tuple(draw.choice([-3, -1, 0, 0, 1, 2, BIG, -BIG]) for _ in range(many)) for _ in "ab"]
                due = due_shows(fees, ("prices", rows, columns))
                same(self, paper_shows(steps, wishes, ("prices", rows, columns)), due)
                seen["prices", due is None] = seen.get(("prices", due is None), 0) + 1
            for size in range(1, many + 1):
                for places in itertools.combinations(range(many), size):
                    due = due_shows(fees, ("lack", places))
                    same(self, paper_shows(steps, wishes, ("lack", places)), due)
                    seen["lack", due] = seen.get(("lack", due), 0) + 1
        self.assertGreater(min(seen.values()), 100)
        self.assertEqual(len(seen), 4)


class TestPaperFor(unittest.TestCase):
    def is_a_paper(self, steps, wishes, fees, due):
        """Checks that what paper_for tells is a paper by 6.4 that shows what is due; gives it."""
        paper = paper_for(steps, wishes)
        self.assertIsInstance(paper, tuple)
        many = len(fees)
        if due == "none":
            self.assertEqual((len(paper), paper[0]), (2, "lack"))
            self.assertIsInstance(paper[1], tuple)
            self.assertTrue(all(within(0, many - 1)(place) for place in paper[1]))
            self.assertEqual(list(paper[1]), sorted(set(paper[1])))
        else:
            self.assertEqual((len(paper), paper[0]), (3, "prices"))
            for numbers in paper[1:]:
                self.assertIsInstance(numbers, tuple)
                self.assertEqual(len(numbers), many)
                self.assertTrue(all(whole(number) for number in numbers))
        same(self, due_shows(fees, paper), due)
        same(self, paper_shows(steps, wishes, paper), due)
        return paper

    def test_by_hand(self):
        self.is_a_paper(STEPS, WISHES, [[4, 6], [3, 5]], 9)
        self.is_a_paper(STEPS, (("a",), ("b",)), [[4]], 4)
        paper = self.is_a_paper(STEPS, (("a", "d"), ("b", "e")), [[4, None], [None, None]], "none")
        self.assertIn(paper[1], ((1,), (0, 1)))

    def test_lack_of_one_place_and_of_all(self):
        same(self, paper_for((), (("a",), ("b",))), ("lack", (0,)))
        for many in range(1, 7):
            steps = tuple(("abcdef"[at], "x", 1) for at in range(many))
            wishes = (tuple("abcdef"[:many]), ("x",) * (many - 1) + ("y",))
            fees = [[1] * (many - 1) + [None]] * many
            paper = self.is_a_paper(steps, wishes, fees, "none")
            same(self, paper, ("lack", tuple(range(many))))

    def test_numbers_of_thirty_figures_and_more(self):
        steps = tuple(sorted([(one, other, BIG - at) for at, (one, other) in enumerate(
            itertools.product("abcd", "wxyz"))]))
        wishes = (("a", "b", "c", "d"), ("z", "x", "y", "w"))
        fees = due_fees(steps, wishes)
        self.is_a_paper(steps, wishes, fees, due_plans(fees)[0][0])
        chain = tuple(sorted(("abcdefghijklmnopqrst"[k], "bcdefghijklmnopqrstu"[k], BIG) for k in range(20)))
        for wishes in ((("a",) * 6, ("u",) * 6), (("a", "b", "c", "d", "e", "f"), ("p", "q", "r", "s", "t", "u"))):
            fees = due_fees(chain, wishes)
            self.is_a_paper(chain, wishes, fees, due_plans(fees)[0][0])

    def test_draws(self):
        draw = random.Random(641)
        seen = {}
        for _ in range(400):
            steps, wishes = drawn_case(draw)
            fees = due_fees(steps, wishes)
            plans = due_plans(fees)
            due = plans[0][0] if plans else "none"
            paper = self.is_a_paper(steps, wishes, fees, due)
            key = len(paper[1]) if due == "none" else "prices"
            seen[key] = seen.get(key, 0) + 1
            best = best_plan(steps, wishes)
            same(self, best and best[0], None if due == "none" else due)
            same(self, paper_for(steps, wishes), paper)
        for key in ("prices", 1, 2, 3):
            self.assertGreater(seen.get(key, 0), 5, key)


class TestRefusals(unittest.TestCase):
    def test_no_steps(self):
        wrong = wrong_things(lambda thing: thing == () and isinstance(thing, tuple), list(STEPS), STEPS[::-1],
                             STEPS[0], (STEPS,), (STEPS[0], STEPS[0]), (("a", "a", 1),), (("a", "b", -1),),
                             (("a", "b", True),), (("a", "b", 1), ("a", "b", 2)), TWENTY + (("u", "v", 1),),
                             (["a", "b", 1],), (("a", "b"),), (("a", "b", 1, 1),), (("A", "b", 1),))
        for call in CALLS:
            refused(self, "NoSteps", lambda steps: call(steps, WISHES), wrong)
            refused(self, "NoSteps", lambda steps: call(steps, None), wrong)
        refused(self, "NoSteps", lambda steps: plan_pence(steps, (), None), wrong)

    def test_no_wishes(self):
        names = ("a",) * 7
        wrong = anything() + [
            (("a",), ("b",), ("c",)), (("a",),), (("a",), ("b", "c")), (("a", "b"), ("c",)), ((), ()), (("a",), ()),
            ((), ("a",)), (names, names), (names, names[1:]), (names[1:], names), [("a",), ("b",)], (["a"], ("b",)),
            (("a",), ["b"]), (["a"], ["b"]), {("a",): ("b",)}, ("a", "b"), ("ab", "cd"), (("a",), "b"), ("a", ("b",)),
            (("A",), ("b",)), (("a",), ("",)), (("abcdefghi",), ("b",)), (("a", 0), ("b", "c")), (("a",), (None,)),
            (("a",), ("b c",)), (("a",), (("b",),)), ((("a",),), ("b",))]
        for call in CALLS:
            refused(self, "NoWishes", lambda wishes: call(STEPS, wishes), wrong)
            refused(self, "NoWishes", lambda wishes: call((), wishes), wrong)
        refused(self, "NoWishes", lambda wishes: plan_pence(STEPS, wishes, None), wrong)
        refused(self, "NoWishes", lambda wishes: paper_shows(STEPS, wishes, None), wrong)

    def test_each_name_of_wishes(self):
        for thing in anything():
            for wishes in (((thing,), ("a",)), (("a",), (thing,)), (("a", thing), ("a", "b")),
                           (("a", "b"), (thing, "b"))):
                for call in CALLS:
                    if name(thing):
                        call(STEPS, wishes)
                    else:
                        refusal(self, "NoWishes", call, STEPS, wishes)

    def test_six_wished_ones(self):
        wishes = (("a",) * 6, ("abcdefgh",) + ("d",) * 5)
        same(self, best_plan(STEPS, wishes), None)
        same(self, best_plan(STEPS, (("a",) * 6, ("d",) * 6)), (36, (0, 1, 2, 3, 4, 5)))
        same(self, plan_pence(STEPS, (("a",) * 6, ("d",) * 6), (5, 4, 3, 2, 1, 0)), 36)
        same(self, paper_shows(STEPS, wishes, paper_for(STEPS, wishes)), "none")


if __name__ == "__main__":
    unittest.main()
