"""Points 8.1 and 8.3: notes and prices written as texts, and read from them."""

import random
import unittest

from dayshares.months import Months
from dayshares.notes import are_notes, is_note
from dayshares.orders import Order
from dayshares.prices import Prices
from dayshares.texts import note_read, note_shown, notes_read, notes_shown, prices_read
from tests.common import BIG, anything, refusal, refused, same, wrong_things
from tests.draws import drawn_notes, drawn_prices

BEGINS = (0, "begins", "ale", "ann", 30)
NOTES = (BEGINS, (3, "pauses"), (5, "resumes"), (40, "changes", "milk"), (40, "gives", "bob"), (371, "ends"))
WRITTEN = "0 begins ale ann 30\n3 pauses\n5 resumes\n40 changes milk\n40 gives bob\n371 ends"
SIXTEEN = (BEGINS,) + tuple((day, "pauses" if day & 1 else "resumes") for day in range(1, 16))
KINDS = (("ale", 4000, 14), ("milk", 0, 0), ("oil", BIG, 31))
CHANGES = ((0, "ale", 50, "all"), (0, "oil", 0, "new"), (371, "ale", BIG, "new"))
BOOK = "ale 4000 14\nmilk 0 0\noil " + "9" * 30 + " 31\n0 ale 50 all\n0 oil 0 new\n371 ale " + "9" * 30 + " new"
SIX = tuple((kind, 1, 0) for kind in "abcdef")
TWELVE = tuple((day, "a", 1, "all") for day in range(12))

# Lines that write no note, though they come near to one.
NO_NOTES = [
    "", " ", "3", "pauses", "3 ", " 3 pauses", "3 pauses ", "3  pauses", "3 pauses 3", "3 pauses ann", "3 Pauses",
    "03 pauses", "00 pauses", "+3 pauses", "-3 pauses", "-0 pauses", "3.0 pauses", "3_0 pauses", "372 pauses",
    "1000000 pauses", "9" * 1500 + " pauses", "0" * 1500 + " pauses", "pauses 3", "3 stops", "3 changes", "3 changes ",
    "3 changes ale ", "3 changes  ale", "3 changes Ale", "3 changes ale milk", "3 changes 3", "3 changes abcdefghi",
    "3 gives", "3 gives an1", "3 gives 0", "3 begins ale ann", "3 begins ale ann ", "3 begins ale ann 401",
    "3 begins ale ann 03", "3 begins ale ann -1", "3 begins ale ann ale", "3 begins ale 5 0", "3 begins 5 ann 0",
    "3 begins ale ann 0 ", "3 begins ale ann 0 0", "3 ends 0", "(3, 'pauses')", "3,pauses", "3-pauses", "none", "none ",
    "ann pauses", "0x3 pauses", "\u0663 pauses", "3 ends.", "\"3 ends\"", "begins ale ann 0", "ale 4000 14",
    "3 ale 50 all",
]


class TestShown(unittest.TestCase):
    def test_a_note(self):
        for note, line in zip(NOTES, WRITTEN.split("\n")):
            same(self, note_shown(note), line)
        same(self, note_shown((0, "begins", "abcdefgh", "begins", 400)), "0 begins abcdefgh begins 400")
        same(self, note_shown((0, "changes", "none")), "0 changes none")

    def test_notes(self):
        same(self, notes_shown(()), "none")
        same(self, notes_shown(NOTES[1:2]), "3 pauses")
        same(self, notes_shown(NOTES), WRITTEN)
        same(self, notes_shown(SIXTEEN).count("\n"), 15)

    def test_no_note(self):
        refused(self, "NoNote", note_shown, wrong_things(
            is_note, (372, "ends"), (True, "ends"), (0, "stops"), (0, "begins", "a", "ann", 401),
            (0, "begins", "a", "ann", False), [3, "pauses"], ((3, "pauses"),), NOTES, "3 pauses", (3, "changes", "A")))

    def test_no_notes(self):
        refused(self, "NoNotes", notes_shown, wrong_things(
            are_notes, NOTES[::-1], NOTES[:1] * 2, list(NOTES), SIXTEEN + ((16, "ends"),), NOTES[0], WRITTEN, "none",
            ((372, "ends"),), ((True, "ends"),), NOTES + (None,)))

    def test_prices_are_written_as_str_tells(self):
        same(self, str(Prices(KINDS, CHANGES)), BOOK)


class TestNoteRead(unittest.TestCase):
    def test_each_word(self):
        for note, line in zip(NOTES, WRITTEN.split("\n")):
            same(self, note_read(line), note)
        same(self, note_read("0 begins abcdefgh begins 400"), (0, "begins", "abcdefgh", "begins", 400))
        same(self, note_read("10 gives none"), (10, "gives", "none"))
        same(self, note_read("0 begins a b 0"), (0, "begins", "a", "b", 0))

    def test_no_text(self):
        for thing in anything():
            if not isinstance(thing, str):
                same(self, refusal(self, "NoText", note_read, thing).at, -1)
        for thing in (BEGINS, ["3 pauses"], ("3 pauses",), {"3 pauses": 0}):
            same(self, refusal(self, "NoText", note_read, thing).at, -1)

    def test_what_writes_no_note(self):
        for line in NO_NOTES:
            same(self, refusal(self, "NoText", note_read, line).at, 0)
        for text in anything():
            if isinstance(text, str) and text != "0 ends":
                same(self, refusal(self, "NoText", note_read, text).at, 0)

    def test_several_lines(self):
        for text, at in (("3 pauses\n", 1), ("\n3 pauses", 0), ("3 pauses\n4 ends", 2), ("3 pauses\n3 pauses", 2),
                         ("4 ends\n3 pauses", 2), (WRITTEN, 6), (WRITTEN + "\n", 6), ("3 pauses\nnone", 1),
                         ("\n", 0), ("\n\n", 0), ("3 pauses\n\n4 ends", 1), ("3 pauses\n4 end\nnone", 1),
                         ("3 pauses\n4 ends\n04 ends\n", 2), (" 3 pauses\n4 ends", 0), ("3 pauses \n4 ends", 0),
                         ("\n".join(["3 pauses"] * 20), 20)):
            same(self, refusal(self, "NoText", note_read, text).at, at)


class TestNotesRead(unittest.TestCase):
    def test_by_hand(self):
        same(self, notes_read("none"), ())
        same(self, notes_read(WRITTEN), NOTES)
        same(self, notes_read("3 pauses"), ((3, "pauses"),))
        same(self, notes_read("3 changes none\n3 gives none"), ((3, "changes", "none"), (3, "gives", "none")))
        same(self, notes_read("9 ends\n10 ends"), ((9, "ends"), (10, "ends")))

    def test_sixteen_and_seventeen(self):
        text = notes_shown(SIXTEEN)
        same(self, notes_read(text), SIXTEEN)
        same(self, refusal(self, "NoText", notes_read, text + "\n16 ends").at, 17)
        same(self, refusal(self, "NoText", notes_read, text + "\n16 ends\n17 ends").at, 18)
        same(self, refusal(self, "NoText", notes_read, text + "\n16 end").at, 16)
        same(self, refusal(self, "NoText", notes_read, text + "\n").at, 16)

    def test_lines_that_fall_or_are_alike(self):
        for text, due in (("3 pauses\n3 pauses", 2), ("4 ends\n3 pauses", 2), ("3 resumes\n3 pauses", 2),
                          ("3 pauses\n5 ends\n4 ends", 3), ("10 ends\n9 ends", 2), ("3 gives b\n3 gives a", 2),
                          ("5 begins a b 10\n5 begins a b 9", 2)):
            same(self, refusal(self, "NoText", notes_read, text).at, due)

    def test_no_text(self):
        for thing in anything():
            if not isinstance(thing, str):
                same(self, refusal(self, "NoText", notes_read, thing).at, -1)
        for thing in (NOTES, (), [], ["none"], ("3 pauses",)):
            same(self, refusal(self, "NoText", notes_read, thing).at, -1)

    def test_the_first_line_that_writes_no_note(self):
        lines = WRITTEN.split("\n")
        for wrong in NO_NOTES:
            for at in range(7):
                if (wrong, at) != ("none", 0):
                    text = "\n".join(lines[:at] + [wrong] + lines[at:])
                    same(self, refusal(self, "NoText", notes_read, text).at, at)
                    same(self, refusal(self, "NoText", notes_read, text + "\n" + wrong).at, at)
            if wrong != "none":
                same(self, refusal(self, "NoText", notes_read, wrong).at, 0)
        for text in anything():
            if isinstance(text, str) and text not in ("0 ends", "none"):
                same(self, refusal(self, "NoText", notes_read, text).at, 0)

    def test_none_among_others(self):
        for text, due in (("none\n", 0), ("\nnone", 0), ("none\nnone", 0), ("none\n3 pauses", 0), ("3 pauses\nnone", 1),
                          (" none", 0), ("none ", 0), ("None", 0), ("NONE", 0), ("", 0), ("\n", 0)):
            same(self, refusal(self, "NoText", notes_read, text).at, due)
        # What falls is told only where each line writes a note.
        same(self, refusal(self, "NoText", notes_read, "4 ends\n3 ends\n").at, 2)
        same(self, refusal(self, "NoText", notes_read, "4 ends\n3 ends\n04 ends\n5 ends").at, 2)

    def test_what_is_shown_is_read_to_the_same(self):
        draw = random.Random(81)
        for _ in range(150):
            notes = drawn_notes(draw, 371)
            same(self, notes_read(notes_shown(notes)), notes)
            for note in notes:
                same(self, note_read(note_shown(note)), note)
            same(self, notes_shown(notes), "\n".join(note_shown(note) for note in notes) or "none")


class TestPricesRead(unittest.TestCase):
    def reads(self, text, kinds, notes=()):
        told = prices_read(text)
        self.assertIsInstance(told, Prices)
        self.assertEqual(told, Prices(kinds, notes))
        same(self, (told.all_kinds(), told.all_notes()), ([row[0] for row in kinds], notes))
        same(self, str(told), text)

    def test_by_hand(self):
        self.reads("ale 0 0", (("ale", 0, 0),))
        self.reads("ale 4000 14\nmilk 50 31", (("ale", 4000, 14), ("milk", 50, 31)))
        self.reads(BOOK, KINDS, CHANGES)
        self.reads("all 1 2\nnew 3 4\n5 all 6 new\n7 new 8 all", (("all", 1, 2), ("new", 3, 4)),
                   ((5, "all", 6, "new"), (7, "new", 8, "all")))
        self.reads("\n".join(f"{kind} 1 0" for kind in "abcdef") + "\n" + "\n".join(
            f"{day} a 1 all" for day in range(12)), SIX, TWELVE)

    def test_pence_of_many_figures(self):
        for many in (29, 30, 31, 100, 900, 1900):
            self.reads("a " + "7" * many + " 0", (("a", int("7" * many), 0),))
        self.reads("a 1 0\n0 a 1" + "0" * 1000 + " all", (("a", 1, 0),), ((0, "a", 10 ** 1000, "all"),))

    def test_no_text(self):
        for thing in anything():
            if not isinstance(thing, str):
                same(self, refusal(self, "NoText", prices_read, thing).at, -1)
        for thing in (KINDS, Prices(KINDS), ["ale 0 0"], ("ale 0 0",)):
            same(self, refusal(self, "NoText", prices_read, thing).at, -1)

    def test_the_first_line_that_writes_neither(self):
        lines = BOOK.split("\n")
        for wrong in ("", " ", "none", "ale", "ale 5", "ale 5 ", "ale  5 0", " ale 5 0", "ale 5 0 ", "ale 5 32",
                      "ale 05 0", "ale 5 00", "ale -5 0", "ale 5 -1", "Ale 5 0", "5 5 0", "abcdefghi 5 0", "ale 5 0 0",
                      "ale x 0",
                      "ale 5 x", "3 ale 50", "3 ale 50 ", "3 ale 50 old", "3 ale 50 All", "3 ale 50 all all",
                      "03 ale 50 all", "3 ale 050 all", "372 ale 50 all", "-3 ale 50 all", "3 Ale 50 all",
                      "3 5 50 all", "3 ale -50 all", "3 ale x all", "3  ale 50 all", "3 ale 50  all", "3 ale 50 all ",
                      " 3 ale 50 all", "x ale 50 all", "3 ale 50 0", "3 pauses", "3 changes ale", "3.0 ale 50 all",
                      "ale 5.0 0", "ale +5 0", "ale 5_0 0", "abcdefghi 5 0", "3 abcdefghi 50 all", "0 " + "0" * 1900):
            for at in range(7):
                text = "\n".join(lines[:at] + [wrong] + lines[at:])
                same(self, refusal(self, "NoText", prices_read, text).at, at)
                same(self, refusal(self, "NoText", prices_read, text + "\n" + wrong).at, at)
        for text in anything():
            if isinstance(text, str) and text != "a 1 0":
                same(self, refusal(self, "NoText", prices_read, text).at, 0)
        same(self, refusal(self, "NoText", prices_read, BOOK + "\n").at, 6)
        same(self, refusal(self, "NoText", prices_read, "\n" + BOOK).at, 0)

    def test_a_kind_behind_a_price_note(self):
        for text, due in (("a 1 0\n3 a 5 all\nb 1 0", 2), ("3 a 5 all\na 1 0", 1), ("a 1 0\n3 b 5 all\nb 1 0", 2),
                          ("a 1 0\n3 a 5 all\n4 a 5 all\nb 1 0\nb 1 0", 3), ("b 1 0\na 1 0\n3 a 5 all\na 1 0", 3),
                          ("a 1 0\n3 a 5 all\nb 1 0\nnone", 2), ("a 1 0\nnone\n3 a 5 all\nb 1 0", 1)):
            same(self, refusal(self, "NoText", prices_read, text).at, due)

    def test_each_line_right_and_all_together_none(self):
        six, twelve = [f"{kind} 1 0" for kind in "abcdef"], [f"{day} a 1 all" for day in range(12)]
        for lines in (["b 1 0", "a 1 0"], ["a 1 0", "a 1 0"], ["a 1 0", "a 2 0"], ["a 1 0", "3 b 1 all"],
                      ["3 a 1 all"], ["3 a 1 all", "4 a 1 all"], ["a 1 0", "4 a 1 all", "3 a 1 all"],
                      ["a 1 0", "3 a 1 all", "3 a 1 all"], ["a 1 0", "3 a 1 all", "3 a 1 new"],
                      ["a 1 0", "3 a 1 all", "3 a 2 all"], ["a 1 0", "b 1 0", "3 b 1 all", "3 a 1 all"],
                      six + ["g 1 0"], six + twelve + ["12 a 1 all"], ["a 1 0"] + twelve + ["12 a 1 all"],
                      ["a 1 0", "10 a 1 all", "9 a 1 all"]):
            same(self, refusal(self, "NoText", prices_read, "\n".join(lines)).at, len(lines))

    def test_what_is_shown_is_read_to_the_same(self):
        draw = random.Random(82)
        for _ in range(100):
            prices = drawn_prices(draw, 371)
            self.reads(str(prices), prices.kinds, prices.all_notes())


class TestNothingIsKept(unittest.TestCase):
    def test_the_same_again(self):
        for _ in range(2):
            same(self, notes_read(WRITTEN), NOTES)
            same(self, refusal(self, "NoText", notes_read, WRITTEN + "\n").at, 6)
            same(self, prices_read(BOOK) == Prices(KINDS, CHANGES), True)
        made = Order(Months((31,)), Prices((("ale", 1, 0), ("milk", 1, 0))), notes_read(WRITTEN))
        same(self, made.notes_of(), NOTES)


if __name__ == "__main__":
    unittest.main()
