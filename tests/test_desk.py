"""Points 8.2 and 8.3: a desk, its lines and its answers."""

import random
import unittest

from dayshares.desk import Desk
from dayshares.errors import ShareError
from dayshares.months import Months
from dayshares.prices import Prices
from dayshares.roof import Roof
from dayshares.sheets import Sheet
from dayshares.texts import note_read, note_shown
from tests.common import BIG, anything, refusal, refused, same, wrong_things
from tests.draws import MANY_WORDS

MONTHS = Months((31, 28))
PRICES = Prices((("a", 310, 0), ("b", 620, 2), ("c", 0, 0)), ((31, "a", 280, "all"), (31, "b", 560, "all")))
BEGINS = "0 begins a ann 0"
QUESTIONS = ("names", "moved", "days one", "owes ann", "owes ann 0", "paid one 3", "sheet 0")
WORDS = ("tell", "strike", "back", "names", "paid", "owes", "days", "moved", "sheet", "none", "ok", "nothing")


def desk(*lines, months=MONTHS, prices=PRICES):
    """Gives a desk told these deeds."""
    made = Desk(months, prices)
    for line in lines:
        if made.say(line) != "ok":
            raise AssertionError(line)
    return made


def shows(made):
    """Gives all that a desk tells of what it keeps."""
    names = made.say("names")
    told = [names, made.say("moved"), len(made), repr(made), made.say("sheet 0"), made.say("owes ann"),
            made.say("owes bob 1")]
    for one in [] if names == "none" else names.split(" "):
        told += [made.say(f"days {one}")] + [made.say(f"paid {one} {day}") for day in (0, 3, 31, 58)]
    return told


def due_answer(roof, line):
    """Gives the answer to a question by the words of 8.2, of a roof told the same deeds."""
    word, *rest = line.split(" ")
    if word == "names":
        return " ".join(roof.names_now()) or "none"
    if word == "moved":
        return "; ".join(" ".join(map(str, row)) for row in roof.moved_now()) or "none"
    if word == "days":
        return str(len(roof.order_of(rest[0])))
    if word == "owes":
        return str(roof.owes(rest[0], *map(int, rest[1:])))
    if word == "paid":
        told = roof.order_of(rest[0]).paid_on(int(rest[1]))
        return " ".join(map(str, told)) if told else "nothing"
    roof.owes("ann", int(rest[0]))
    rows = tuple((one, roof.order_of(one)) for one in roof.names_now())
    return str(Sheet(rows, int(rest[0])).total()) if rows else "0"


class TestDeeds(unittest.TestCase):
    def test_by_hand(self):
        made = Desk(MONTHS, PRICES)
        for line, names, moved, many in (
                ("tell one 0 begins a ann 0", "one", "ann 0 310; ann 1 280", 1),
                ("tell b 30 begins b bob 3", "b one", "bob 1 20", 2),
                ("tell one 21 pauses", "b one", "ann 0 -100; ann 1 -280", 3),
                ("tell one 371 ends", "b one", "none", 4),
                ("tell one 40 gives cy", "b one", "none", 5),
                ("strike one 21 pauses", "b one", "ann 0 100; ann 1 90; cy 1 190", 6),
                ("strike b 30 begins b bob 3", "one", "bob 1 -20", 7),
                ("back", "b one", "ann 0 100; ann 1 90; cy 1 190", 6),
                ("back", "b one", "none", 5), ("back", "b one", "none", 4),
                ("back", "b one", "ann 0 -100; ann 1 -280", 3), ("back", "b one", "bob 1 20", 2),
                ("back", "one", "ann 0 310; ann 1 280", 1), ("back", "none", "none", 0)):
            same(self, made.say(line), "ok")
            same(self, (made.say("names"), made.say("moved"), len(made)), (names, moved, many))
            same(self, repr(made), f"Desk({many})")
        for _ in range(2):
            refusal(self, "NoDeed", made.say, "back")
            same(self, (made.say("names"), len(made)), ("none", 0))

    def test_what_the_roof_refuses(self):
        made = desk(*(f"tell {one} {BEGINS}" for one in "abcdefgh"), "tell a 30 ends",
                    *(f"tell a {day} {word}" for day, word in enumerate(["pauses", "resumes"] * 7, 3)))
        before = shows(made)
        caught = refusal(self, "TooMany", made.say, f"tell i {BEGINS}")
        self.assertEqual((caught.many, caught.most), (9, 8))
        caught = refusal(self, "TooMany", made.say, "tell i 3 changes z")
        self.assertEqual((caught.many, caught.most), (9, 8))
        caught = refusal(self, "TooMany", made.say, "tell a 3 changes z")
        self.assertEqual((caught.many, caught.most), (17, 16))
        refused(self, "Twice", made.say, ["tell a 3 pauses", f"tell a {BEGINS}", f"tell h {BEGINS}"])
        refused(self, "NoKind", made.say, ["tell b 3 changes z", "tell c 9 begins ann a 0"])
        refused(self, "Missing", made.say, ["strike b 3 pauses", f"strike i {BEGINS}", "strike a 4 pauses",
                                            "strike ann 3 changes z", "strike b 0 begins a ann 1"])
        self.assertEqual(refusal(self, "Leans", made.say, f"strike a {BEGINS}").many, 15)
        same(self, shows(made), before)

    def test_a_desks_own_words_as_names(self):
        prices = Prices((("pauses", 310, 0), ("tell", 31, 0)))
        for one in WORDS[:8]:
            made = Desk(MONTHS, prices)
            same(self, made.say(f"tell {one} 0 begins tell {one} 0"), "ok")
            same(self, made.say(f"tell {one} 1 changes pauses"), "ok")
            same(self, made.say("names"), one)
            same(self, made.say(f"paid {one} 0"), f"{one} tell 1 list")
            same(self, made.say(f"days {one}"), "59")
            same(self, made.say(f"owes {one} 0"), "301")
            same(self, made.say(f"strike {one} 1 changes pauses"), "ok")
            same(self, made.say(f"owes {one}"), "62")
            same(self, made.say(f"strike {one} 0 begins tell {one} 0"), "ok")
            same(self, made.say("names"), "none")
        for one in ("none", "ok", "nothing"):
            made = desk(f"tell {one} 0 begins a {one} 0")
            same(self, (made.say("names"), made.say(f"paid {one} 1")), (one, f"{one} a 10 list"))

    def test_as_a_roof(self):
        made, roof = Desk(MONTHS, PRICES), Roof(MONTHS, PRICES)
        for note in ((0, "begins", "a", "ann", 0), (3, "changes", "b"), (5, "gives", "bob"), (7, "pauses"),
                     (9, "resumes"), (50, "ends")):
            same(self, made.say("tell one " + note_shown(note)), "ok")
            roof.tells("one", note)
            for question in QUESTIONS + tuple(f"paid one {day}" for day in range(59)):
                same(self, made.say(question), due_answer(roof, question))
        same(self, len(made), 6)


class TestQuestions(unittest.TestCase):
    def test_a_desk_without_orders(self):
        for made in (desk(), desk(f"tell one {BEGINS}", f"strike one {BEGINS}"), desk(f"tell one {BEGINS}")):
            if made.say("names") == "one":
                made.say("back")
            same(self, made.say("names"), "none")
            same(self, [made.say(f"sheet {month}") for month in (0, 1)], ["0", "0"])
            refused(self, "NoDay", made.say, ["sheet 2", "sheet 12", "sheet " + "9" * 30])
            same(self, [made.say(line) for line in ("owes ann", "owes ann 1")], ["0", "0"])
            refused(self, "NoDay", made.say, ["owes ann 2", "owes ann " + "9" * 30])
            refused(self, "Missing", made.say, ["days one", "paid one 0", "paid one 59", "paid one " + "9" * 30])
        same(self, desk().say("moved"), "none")

    def test_paid(self):
        made = desk("tell one 2 begins b ann 0", "tell one 5 pauses", "tell one 6 resumes", "tell one 7 changes a",
                    "tell one 8 ends", "tell two 3 pauses")
        for line, due in (("paid one 0", "nothing"), ("paid one 1", "nothing"), ("paid one 2", "ann b 0 free"),
                          ("paid one 4", "ann b 20 list"), ("paid one 5", "ann b 0 paused"),
                          ("paid one 7", "ann a 10 list"), ("paid one 8", "nothing"), ("paid one 58", "nothing"),
                          ("paid two 3", "nothing")):
            same(self, made.say(line), due)
        refused(self, "NoDay", made.say, [f"paid {one}" for one in (
            "one 59", "two 372", "one " + "9" * 30, "one 1" + "0" * 29)])
        refused(self, "Missing", made.say, ["paid three 0", "paid three 59", "paid ann " + "9" * 30])

    def test_owes_and_days(self):
        made = desk("tell one 0 begins a ann 0", "tell one 10 gives bob", "tell two 31 begins b ann 10")
        for line, due in (("owes ann", "260"), ("owes ann 0", "100"), ("owes ann 1", "160"), ("owes bob", "490"),
                          ("owes bob 0", "210"), ("owes bob 1", "280"), ("owes one", "0"), ("owes cy 1", "0"),
                          ("days one", "59"), ("days two", "10")):
            same(self, made.say(line), due)
        refused(self, "Missing", made.say, ["days ann", "days three", "days twoo"])
        refused(self, "NoDay", made.say, ["owes ann 2", "owes cy 59"])

    def test_sheet(self):
        made = desk("tell one 0 begins a ann 0", "tell one 10 gives bob", "tell two 31 begins b ann 10")
        same(self, [made.say(f"sheet {month}") for month in (0, 1)], ["310", "440"])
        refused(self, "NoDay", made.say, ["sheet 2", "sheet 31"])
        made = Desk(Months((28,) * 12), PRICES)
        for one in "abcdefgh":
            made.say(f"tell {one} 0 begins c ann 0")
        same(self, made.say("sheet 11"), "0")
        made.say("tell h 308 changes a")
        same(self, made.say("sheet 11"), "280")

    def test_large_pence(self):
        made = Desk(Months((31,) * 12), Prices((("a", BIG, 0),)))
        for one in "abcdefgh":
            made.say(f"tell {one} {BEGINS}")
        same(self, made.say("owes ann"), str(96 * BIG))
        same(self, made.say("sheet 3"), str(8 * BIG))
        same(self, made.say("moved"), "; ".join(f"ann {month} {BIG}" for month in range(12)))
        same(self, made.say("paid a 0"), f"ann a {BIG // 31} list")

    def test_a_question_is_no_deed(self):
        made = desk("tell one 0 begins a ann 0")
        before = shows(made)
        for line in QUESTIONS:
            made.say(line)
        same(self, shows(made), before)
        same(self, made == desk("tell one 0 begins a ann 0"), True)


class TestNoLine(unittest.TestCase):
    def refuses(self, lines):
        made = desk(f"tell one {BEGINS}", "tell ann 3 pauses")
        before = shows(made)
        refused(self, "NoLine", made.say, lines)
        same(self, shows(made), before)
        refused(self, "NoLine", desk().say, lines)

    def test_things_of_every_kind(self):
        self.refuses(wrong_things(lambda thing: thing == "back" and isinstance(thing, str), ["back"], ("names",),
                                  [BEGINS], {"names": "names"}, MONTHS, PRICES))

    def test_a_word_more_or_fewer(self):
        self.refuses(["back 0", "back one", "back back", "names one", "names 0", "moved 0", "moved one", "days",
                      "days one 0", "days one one", "owes", "owes ann 0 0", "owes ann ann", "owes 0", "owes 0 ann",
                      "owes ann 0 ann", "paid", "paid one", "paid 0", "paid 0 one", "paid one 0 0", "paid one one",
                      "sheet", "sheet one", "sheet 0 0", "sheet one 0", "tell", "tell one", "tell 0 ends",
                      "tell one two 0 ends", "tell one 0", "tell one 0 ends 0", "tell one ends", "strike",
                      "strike one", "strike 3 pauses", "strike one 3", "strike one 3 pauses ann", "tell one none"])

    def test_blanks(self):
        for line in (*QUESTIONS, "back", f"tell one {BEGINS}", f"strike one {BEGINS}", "tell two 3 pauses"):
            wrong = [" " + line, line + " ", line + "  ", "  " + line, line + "\n", "\n" + line, line + "\nback"]
            wrong += [line[:at] + more + line[at:] for at, sign in enumerate(line) if sign == " " for more in " \n"]
            wrong += [line[:at] + "\n" + line[at + 1:] for at, sign in enumerate(line) if sign == " "]
            self.refuses(wrong)
        self.refuses(["", " ", "  ", "\n", "owes ann ", "owes  ann", "names ", " names", "paid  one 3"])

    def test_words(self):
        self.refuses(["Back", "NAMES", "name", "bac", "backk", "tells one 3 ends", "strikes one 3 ends", "say", "none",
                      "0", "5 6", "paying one 3", "day one", "owe ann", "sheets 0", "len", "repr", "move", "_names",
                      "names;moved", "back\nback"])

    def test_names(self):
        for one in ("One", "one1", "abcdefghi", "0", "one-two", "_", "1", "(one)"):
            self.refuses([f"tell {one} {BEGINS}", f"strike {one} {BEGINS}", f"days {one}", f"owes {one}",
                          f"owes {one} 0", f"paid {one} 3"])
        # What is no line is told ahead of a name that isn't there, and of a day that is none.
        self.refuses(["paid nobody x", "paid nobody 03", "paid nobody -1", "days Nobody", "strike nobody 3 pause"])

    def test_numbers(self):
        for number in ("-1", "-0", "00", "01", "03", "+3", "3.0", "3_0", "x", "0x1", "1e3", "9" * 31, "1" + "0" * 30,
                       "9" * 1900, "0" * 31, "(0)"):
            self.refuses([f"paid one {number}", f"owes ann {number}", f"sheet {number}"])
        made = desk(f"tell one {BEGINS}")
        for number in ("9" * 30, "1" + "0" * 29, "59", "372"):
            refused(self, "NoDay", made.say, [f"paid one {number}", f"owes ann {number}", f"sheet {number}"])
        same(self, made.say("paid one 58"), "ann a 10 all")

    def test_notes(self):
        for note in ("3", "3 pause", "03 pauses", "372 pauses", "-3 pauses", "3 Pauses", "3 changes", "3 changes A",
                     "3 gives 5", "3 begins a ann", "3 begins a ann 401", "3 begins a ann 00", "3 begins a ann 0 0",
                     "3 pauses 4 ends", "none", "(3, pauses)", "3 pauses\n4 ends", "9" * 31 + " pauses", "pauses 3"):
            self.refuses([f"tell one {note}", f"strike one {note}", f"tell ann {note}", f"strike nobody {note}"])


class TestMade(unittest.TestCase):
    def test_no_months(self):
        wrong = wrong_things(lambda thing: isinstance(thing, Months), (31, 28), str(MONTHS), [MONTHS])
        for prices in (PRICES, None, MONTHS):
            refused(self, "NoMonths", lambda months: Desk(months, prices), wrong)

    def test_no_prices(self):
        wrong = wrong_things(lambda thing: isinstance(thing, Prices), (("a", 310, 0),), str(PRICES), [PRICES])
        refused(self, "NoPrices", lambda prices: Desk(MONTHS, prices), wrong)


class TestEqual(unittest.TestCase):
    def test_where_months_prices_and_deeds_are(self):
        other_prices = PRICES.with_price((3, "a", 1, "new"))
        deeds = ((), (f"tell one {BEGINS}",), (f"tell two {BEGINS}",), (f"tell one {BEGINS}", f"tell two {BEGINS}"),
                 (f"tell two {BEGINS}", f"tell one {BEGINS}"), (f"tell one {BEGINS}", f"strike one {BEGINS}"))
        desks = [desk(*lines, months=months, prices=prices) for months in (MONTHS, Months((28, 31)))
                 for prices in (PRICES, other_prices) for lines in deeds]
        for k, one in enumerate(desks):
            for j, other in enumerate(desks):
                same(self, one == other, k == j)
                same(self, one != other, k != j)
                same(self, one in [None, other], k == j)
                same(self, [1, other].count(one), 1 if k == j else 0)
            same(self, desks.index(one), k)

    def test_deeds_that_stand_alone(self):
        one, other = desk(f"tell one {BEGINS}"), desk(f"tell one {BEGINS}", "tell one 3 pauses")
        same(self, one == other, False)
        other.say("back")
        same(self, one == other, True)
        same(self, one != other, False)
        one.say("back")
        same(self, (one == other, one == desk(), bool(one), bool(other)), (False, True, False, True))
        one.say("tell one 3 pauses")
        one.say(f"tell one {BEGINS}")
        other.say("tell one 3 pauses")
        same(self, (one == other, one.say("days one"), other.say("days one")), (False, "3", "3"))
        same(self, (len(one), repr(one)), (2, "Desk(2)"))
        same(self, Desk(Months((31, 28)), Prices(PRICES.kinds, PRICES.notes)) == desk(), True)

    def test_equal_to_nothing_else(self):
        for made in (desk(), desk(f"tell one {BEGINS}")):
            for thing in anything() + [repr(made), [f"tell one {BEGINS}"], Roof(MONTHS, PRICES), MONTHS]:
                same(self, made == thing, False)
                same(self, thing == made, False)
                same(self, made != thing, True)
            same(self, made in anything(), False)
            same(self, [*anything(), made].index(made), len(anything()))


class TestDraws(unittest.TestCase):
    def test_against_a_roof_told_the_same(self):
        draw = random.Random(83)
        seen = {}
        for _ in range(40):
            made, roof, beside, stands = Desk(MONTHS, PRICES), Roof(MONTHS, PRICES), desk(f"tell one {BEGINS}"), []
            for _ in range(40):
                line = self.line(draw, stands)
                told, due = self.answer(made.say, line), self.answer(lambda one: self.do(roof, one, stands), line)
                same(self, told, due)
                key = (line.split(" ")[0], due if due in ("ok", "NoDeed", "Missing", "Leans", "Twice", "NoDay") else "")
                seen[key] = seen.get(key, 0) + 1
                same(self, (len(made), repr(made)), (len(stands), f"Desk({len(stands)})"))
                same(self, made == desk(*stands), True)
            same(self, shows(beside), shows(desk(f"tell one {BEGINS}")))
        for key in (("tell", "ok"), ("strike", "ok"), ("back", "ok"), ("back", "NoDeed"), ("strike", "Missing"),
                    ("strike", "Leans"), ("tell", "Twice"), ("paid", ""), ("paid", "NoDay"), ("paid", "Missing"),
                    ("owes", ""), ("owes", "NoDay"), ("sheet", ""), ("sheet", "NoDay"), ("days", ""), ("moved", ""),
                    ("names", ""), ("days", "Missing")):
            self.assertGreater(seen.get(key, 0), 3, (key, seen))

    def line(self, draw, stands):
        """Gives a drawn line."""
        one, day, month = draw.choice("ab"), draw.choice([0, 1, 2, 3, 30, 31, 58, 59]), draw.randint(0, 2)
        way = draw.random()
        if way < 0.15:
            return f"tell {one} 0 begins {draw.choice('abc')} {draw.choice(['ann', 'bob'])} {draw.choice([0, 9])}"
        if way < 0.35:
            word = draw.choice(MANY_WORDS)
            more = {"changes": " b", "gives": " ann"}.get(word, "")
            return f"tell {one} {draw.choice([0, 3, 9, 31])} {word}{more}"
        if way < 0.5:
            told = [line for line in stands if line.startswith("tell")]
            return draw.choice(told).replace("tell", "strike") if told else f"strike {one} 3 pauses"
        return draw.choice(["back", "back", "names", "moved", f"days {one}", f"owes {draw.choice(['ann', 'bob', 'a'])}",
                            f"owes ann {month}", f"paid {one} {day}", f"paid {one} {day}", f"sheet {month}"])

    def do(self, roof, line, stands):
        """Does with a roof what a line tells; gives the answer that is due."""
        word, *rest = line.split(" ")
        if word == "back":
            roof.back()
            stands.pop()
            return "ok"
        if word not in ("tell", "strike"):
            return due_answer(roof, line)
        (roof.tells if word == "tell" else roof.strikes)(rest[0], note_read(" ".join(rest[1:])))
        stands.append(line)
        return "ok"

    def answer(self, call, line):
        """Gives the answer, or the class of the refusal."""
        try:
            return call(line)
        except ShareError as caught:
            return caught.__class__.__name__


if __name__ == "__main__":
    unittest.main()
