"""What the tests share: things of every kind, and how a refusal is looked at."""

import time

from dayshares import errors
from dayshares.desk import Desk
from dayshares.months import Months
from dayshares.orders import Order
from dayshares.prices import Prices
from dayshares.roof import Roof
from dayshares.sheets import Sheet

FAMILIES = {
    "NoNote": "NoteError", "NoNotes": "NoteError", "Leans": "NoteError",
    "NoKind": "PriceError", "NoPrices": "PriceError",
    "NoMonths": "DayError", "NoDay": "DayError",
}

BIG = 10 ** 30 - 1

# The names among all that anything gives.
NAMES = ("a", "b", "basic", "abcdefgh", "all", "new", "none", "begins", "ends", "pauses", "back")


def anything():
    """Things of every kind that point 0.2 tells, made anew."""
    begins = (0, "begins", "a", "a", 0)
    order = Order(Months((28,)), Prices((("a", 1, 0),)), (begins,))
    roof, desk = Roof(Months((28,)), Prices((("a", 1, 0),))), Desk(Months((28,)), Prices((("a", 1, 0),)))
    roof.tells("a", begins)
    desk.say("tell a 0 begins a a 0")
    return [
        None, True, False,
        -BIG, -31, -1, 0, 1, 2, 5, 27, 28, 30, 31, 32, 60, 61, 371, 372, 400, 401, BIG,
        "", "a", "b", "basic", "abcdefgh", "abcdefghi", "A", "a1", "a b", " ", "\n", "~", "0", "28",
        "all", "new", "none", "begins", "ends", "pauses", "0 ends", "a 1 0", "back", "x" * 2000,
        (), (0,), (28,), (True,), (None,), ("a",), (0, "ends"), ((0, "ends"),), ((28,),), ("a", 1, 0),
        (("a", 1, 0),), ((("a", 1, 0),),), (0, "a", 1, "all"), ((0, "a", 1, "all"),), (0,) * 200,
        [], [0], [28], [28, 31], ["a"], [0, "ends"], [(0, "ends")], ["a", 1, 0], [("a", 1, 0)],
        [0, "a", 1, "all"], [(0, "a", 1, "all")], [[[[[[]]]]]],
        {}, {0: 0}, {"a": 1}, {28: 28}, {(): []}, {0: (0, "ends")},
        Months((28,)), Months((31, 30)), Prices((("a", 1, 0),)), Prices((("a", 1, 0),), ((0, "a", 1, "all"),)),
        order, Order(Months((31, 30)), Prices((("a", 1, 0),))), Sheet((("a", order),), 0), (("a", order),),
        [("a", order)], {"a": order}, roof, Roof(Months((31, 30)), Prices((("a", 1, 0),))), desk,
        Desk(Months((31, 30)), Prices((("a", 1, 0),))), errors.NoDay("a day"), errors.TooMany(13, 12),
    ]


def whole(thing):
    """Tells whether thing is a whole number by point 0.2."""
    return isinstance(thing, int) and thing is not True and thing is not False


def within(low, high):
    """Gives the test of a whole number from low to high."""
    return lambda thing: whole(thing) and low <= thing <= high


def pence(thing):
    """Tells whether thing is a whole number from 0 on."""
    return whole(thing) and thing >= 0


def name(thing):
    """Tells whether thing is a name by point 3.1."""
    return isinstance(thing, str) and thing in NAMES


def wrong_things(right, *more):
    """Gives all things that right does not take, and what else is told to be wrong."""
    return [thing for thing in anything() + list(more) if not right(thing)]


def refusal(test, kind, call, *told, **named):
    """Checks that the call is refused with this class and its family alone; gives the refusal."""
    before = repr((told, named))
    try:
        answer = call(*told, **named)
    except errors.ShareError as caught:
        due = [errors.ShareError, getattr(errors, kind)]
        if kind in FAMILIES:
            due.insert(1, getattr(errors, FAMILIES[kind]))
        held = [one for one in all_classes() if isinstance(caught, one)]
        test.assertCountEqual(held, due, f"{kind} is due of {call} {told!r:.300} {named!r:.300}, not {caught!r}")
        test.assertIs(caught.__class__, getattr(errors, kind))
        test.assertEqual(repr((told, named)), before, "what is handed in was changed")
        return caught
    test.fail(f"{kind} is due of {call} {told!r:.300} {named!r:.300}, not {answer!r:.300}")


def refused(test, kind, call, things):
    """Checks that each of the things is refused by the call with this class."""
    test.assertTrue(things)
    for thing in things:
        refusal(test, kind, call, thing)


def all_classes():
    """Gives all classes of refusals that the interface tells."""
    names = ["ShareError", "NoteError", "PriceError", "DayError", "NoPence", "NoName", "Missing", "Twice", "NoDeed",
             "NoSheet", "NoSteps", "NoWishes", "NoLine", "TooMany", "NoText", *FAMILIES]
    return [getattr(errors, one) for one in names]


def same(test, told, due):
    """Checks that what is told is just what is due, and each of its things of the same kind."""
    test.assertEqual(told, due)
    test.assertEqual(repr(told), repr(due))


def soon(test, most, call):
    """Checks that a call takes no longer than most seconds; tells its answer."""
    took = []
    # The least of several, since the machine may be busy with other things.
    while len(took) < 7 and (not took or min(took) > most):
        begun = time.perf_counter()
        answer = call()
        took.append(time.perf_counter() - begun)
    test.assertLessEqual(min(took), most)
    return answer
