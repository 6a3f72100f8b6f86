"""Points 3.1, 3.2 and 3.3: notes, what became of each, and how an order stands on a day."""

import unittest

from dayshares import notes as program
from dayshares.notes import are_notes, day_of, fates, is_note
from tests.common import BIG, anything, name, refusal, refused, same, within, wrong_things

BEGINS = (0, "begins", "a", "ann", 0)
SIXTEEN = tuple((day, "ends") for day in range(16))
RIGHT = (
    (0, "begins", "a", "b", 0), (371, "begins", "abcdefgh", "abcdefgh", 400), (5, "begins", "basic", "basic", 1),
    (3, "begins", "a", "a", 399), (0, "changes", "a"), (371, "changes", "abcdefgh"), (0, "ends"), (371, "ends"),
    (0, "gives", "a"), (371, "gives", "zzzzzzzz"), (0, "pauses"), (371, "pauses"), (0, "resumes"), (371, "resumes"),
    (7, "changes", "begins"), (7, "gives", "ends"))
WORDS = ("begins", "changes", "ends", "gives", "pauses", "resumes")


class Due:
    """What 3.2 and 3.3 say of notes, day by day from the first one on."""

    def __init__(self, notes):
        self.taken = []
        self.fates = []
        for note in notes:
            fate = self.fate_of(note)
            self.fates.append(fate)
            if fate == "takes":
                self.taken.append(note)

    def told(self, word, day):
        return [note for note in self.taken if note[1] == word and note[0] <= day]

    def paused(self, day):
        told = [note for note in self.taken if note[1] in ("pauses", "resumes") and note[0] <= day]
        return bool(told) and told[-1][1] == "pauses"

    def holder(self, day):
        told = self.told("begins", day)[0][3]
        return [told, *[note[2] for note in self.told("gives", day)]][-1]

    def kind(self, day):
        told = self.told("begins", day)[0][2]
        return [told, *[note[2] for note in self.told("changes", day)]][-1]

    def ran_and_over(self, day):
        """Gives on how many days it ran ahead of this one, and whether it is over on it."""
        ran = 0
        for one in range(day + 1):
            begun = self.told("begins", one)
            term = begun[0][4] if begun else 0
            over = bool(self.told("ends", one)) or (term != 0 and ran >= term)
            if one == day:
                return ran, over
            if begun and not over and not self.paused(one):
                ran += 1

    def fate_of(self, note):
        day, word = note[:2]
        begun = self.told("begins", day)
        if word == "begins":
            return "there" if begun else "takes"
        if not begun:
            return "unbegun"
        if self.ran_and_over(day)[1]:
            return "over"
        if word == "changes" and self.kind(day) == note[2]:
            return "same"
        if word == "gives" and self.holder(day) == note[2]:
            return "same"
        if word == "pauses" and self.paused(day):
            return "paused"
        if word == "resumes" and not self.paused(day):
            return "running"
        return "takes"

    def day_of(self, day):
        ran, over = self.ran_and_over(day)
        if over or not self.told("begins", day):
            return None
        return (self.holder(day), self.kind(day), self.paused(day), ran)


def some_of(pool):
    """Gives all rising tuples of notes of a rising pool."""
    told = [()]
    for note in pool:
        told += [notes + (note,) for notes in told]
    return told


class TestIsNote(unittest.TestCase):
    def test_notes(self):
        for note in RIGHT:
            same(self, is_note(note), True)

    def test_things_of_every_kind(self):
        for thing in anything():
            same(self, is_note(thing), isinstance(thing, tuple) and thing == (0, "ends"))

    def test_days(self):
        for note in RIGHT:
            for day in (0, 1, 30, 370, 371):
                same(self, is_note((day,) + note[1:]), True)
            for day in wrong_things(within(0, 371), 372, 373):
                same(self, is_note((day,) + note[1:]), False)

    def test_words(self):
        for note in RIGHT:
            for word in wrong_things(lambda thing: isinstance(thing, str) and thing in WORDS, "begin", "Begins", "end",
                                     "begins ", "change", "give", "pause", "resume", "takes", "there", ""):
                same(self, is_note((note[0], word) + note[2:]), False)

    def test_names(self):
        wrong = wrong_things(name, "abcdefghi", "Ann", "a1", "ann ", " ann", "an n", "ann\n", "`", "{", "-", "a-b")
        for told in wrong:
            for note in ((5, "changes", told), (5, "gives", told), (5, "begins", told, "ann", 0),
                         (5, "begins", "a", told, 0), (5, "begins", told, told, 0)):
                same(self, is_note(note), False)
        for told in ("a", "z", "az", "abcdefg", "abcdefgh", "zzzzzzzz", "aaaaaaaa"):
            for note in ((5, "changes", told), (5, "gives", told), (5, "begins", told, "ann", 0),
                         (5, "begins", "a", told, 0)):
                same(self, is_note(note), True)

    def test_terms(self):
        for term in (0, 1, 31, 371, 372, 399, 400):
            same(self, is_note((5, "begins", "a", "ann", term)), True)
        for term in wrong_things(within(0, 400), 401, 402):
            same(self, is_note((5, "begins", "a", "ann", term)), False)

    def test_forms(self):
        for note in RIGHT:
            same(self, is_note(list(note)), False)
            same(self, is_note((note,)), False)
            same(self, is_note(note[1:]), False)
            same(self, is_note(note[:-1]), False)
            same(self, is_note((note[1], note[0]) + note[2:]), False)
            for more in (0, "a", None, ()):
                same(self, is_note(note + (more,)), False)
            for word in WORDS:
                if word != note[1]:
                    same(self, is_note((note[0], word) + note[2:]), {word, note[1]} in (
                        {"changes", "gives"}, {"ends", "pauses"}, {"ends", "resumes"}, {"pauses", "resumes"}))
        same(self, is_note((5, "begins", "a", 0, "ann")), False)
        same(self, is_note((5, "begins", "a", "ann")), False)
        same(self, is_note((5, "begins", 0, "a", "ann")), False)
        same(self, is_note((5, "changes", "a", "b")), False)
        same(self, is_note((5, "gives", "a", 0)), False)


class TestAreNotes(unittest.TestCase):
    def test_none_to_sixteen(self):
        for many in range(17):
            same(self, are_notes(SIXTEEN[:many]), True)
        same(self, are_notes(SIXTEEN + ((16, "ends"),)), False)
        same(self, are_notes(SIXTEEN + ((16, "ends"), (17, "ends"))), False)

    def test_things_of_every_kind(self):
        for thing in anything() + [RIGHT[0], list(RIGHT[:1]), {RIGHT[0]: 1}, (list(RIGHT[0]),)]:
            same(self, are_notes(thing), isinstance(thing, tuple) and thing in ((), ((0, "ends"),)))

    def test_one_wrong_among_them(self):
        for thing in anything() + [(372, "ends"), (6, "changes", "A"), (6, "begins", "a", "b", 401), [6, "ends"]]:
            for notes in (((5, "ends"), thing), (thing, (5, "ends")), ((5, "ends"), thing, (9, "ends")), (thing,)):
                right = isinstance(thing, tuple) and thing == (0, "ends") and notes[0] == thing
                same(self, are_notes(notes), right)

    def test_they_rise_by_day(self):
        same(self, are_notes(((4, "ends"), (5, "begins", "a", "b", 0))), True)
        same(self, are_notes(((9, "ends"), (10, "ends"))), True)
        same(self, are_notes(((10, "ends"), (9, "ends"))), False)
        same(self, are_notes(((5, "begins", "a", "b", 0), (4, "ends"))), False)
        same(self, are_notes(((1, "ends"), (3, "ends"), (2, "ends"))), False)
        same(self, are_notes(((2, "ends"), (3, "ends"), (1, "ends"))), False)

    def test_they_rise_by_word_and_what_follows(self):
        day = ((5, "begins", "a", "a", 0), (5, "begins", "a", "a", 1), (5, "begins", "a", "b", 0),
               (5, "begins", "b", "a", 0), (5, "changes", "a"), (5, "changes", "b"), (5, "ends"),
               (5, "gives", "a"), (5, "gives", "b"), (5, "pauses"), (5, "resumes"))
        same(self, are_notes(day), True)
        for k, one in enumerate(day):
            for j, other in enumerate(day):
                same(self, are_notes((one, other)), k < j)


class TestFates(unittest.TestCase):
    def due(self, notes, told):
        same(self, fates(notes), told)
        same(self, Due(notes).fates, told)

    def test_none(self):
        same(self, fates(()), [])

    def test_begins(self):
        self.due((BEGINS,), ["takes"])
        self.due((BEGINS, (0, "begins", "a", "ann", 5)), ["takes", "there"])
        self.due((BEGINS, (3, "begins", "b", "bob", 0)), ["takes", "there"])
        self.due((BEGINS, (3, "ends"), (5, "begins", "b", "bob", 0)), ["takes", "takes", "there"])
        self.due(((0, "begins", "a", "ann", 2), (5, "begins", "b", "bob", 0)), ["takes", "there"])
        self.due(((371, "begins", "a", "ann", 400),), ["takes"])

    def test_unbegun(self):
        told = ((1, "changes", "a"), (1, "ends"), (1, "gives", "ann"), (1, "pauses"), (1, "resumes"))
        self.due(told, ["unbegun"] * 5)
        self.due(told + ((2, "begins", "a", "ann", 0),), ["unbegun"] * 5 + ["takes"])
        for note in told:
            self.due((note,), ["unbegun"])
            self.due(((1, "begins", "b", "bob", 0), note), ["takes", "running" if note[1] == "resumes" else "takes"])

    def test_what_is_unbegun_changes_nothing(self):
        told = ((1, "changes", "b"), (1, "ends"), (1, "gives", "bob"), (1, "pauses"), (2, "begins", "a", "ann", 0))
        self.due(told + ((3, "resumes"),), ["unbegun"] * 4 + ["takes", "running"])
        same(self, day_of(told, 4), ("ann", "a", False, 2))

    def test_over_from_the_day_of_its_end_on(self):
        for note in ((5, "ends"), (5, "gives", "ann"), (5, "gives", "bob"), (5, "pauses"), (5, "resumes"),
                     (6, "changes", "a"), (6, "changes", "b"), (6, "ends"), (371, "resumes")):
            if note != (5, "ends"):
                self.due((BEGINS, (5, "ends"), note), ["takes", "takes", "over"])
        self.due((BEGINS, (5, "changes", "b"), (5, "ends")), ["takes", "takes", "takes"])
        self.due((BEGINS, (0, "ends"), (0, "pauses")), ["takes", "takes", "over"])

    def test_same(self):
        self.due((BEGINS, (1, "changes", "a")), ["takes", "same"])
        self.due((BEGINS, (0, "changes", "a"), (0, "changes", "b")), ["takes", "same", "takes"])
        self.due((BEGINS, (1, "changes", "b"), (1, "changes", "c"), (2, "changes", "b"), (3, "changes", "b"),
                  (4, "changes", "a")), ["takes", "takes", "takes", "takes", "same", "takes"])
        self.due((BEGINS, (1, "gives", "ann")), ["takes", "same"])
        self.due((BEGINS, (1, "gives", "bob"), (1, "gives", "cy"), (2, "gives", "bob"), (3, "gives", "bob"),
                  (4, "gives", "ann")), ["takes", "takes", "takes", "takes", "same", "takes"])
        self.due(((0, "begins", "a", "b", 0), (1, "changes", "b"), (1, "gives", "a")), ["takes", "takes", "takes"])
        self.due(((0, "begins", "a", "b", 0), (1, "changes", "a"), (1, "gives", "b")), ["takes", "same", "same"])

    def test_paused_and_running(self):
        self.due((BEGINS, (1, "pauses"), (2, "pauses"), (2, "resumes"), (2, "resumes"))[:4],
                 ["takes", "takes", "paused", "takes"])
        self.due((BEGINS, (1, "resumes"), (2, "pauses"), (3, "pauses"), (4, "resumes"), (5, "resumes"), (6, "pauses")),
                 ["takes", "running", "takes", "paused", "takes", "running", "takes"])
        self.due((BEGINS, (0, "pauses"), (0, "resumes"), (1, "pauses")), ["takes"] * 4)

    def test_a_paused_order_is_changed_given_on_and_ended(self):
        self.due((BEGINS, (1, "pauses"), (2, "changes", "b"), (3, "gives", "bob"), (4, "ends"), (5, "resumes")),
                 ["takes"] * 5 + ["over"])

    def test_a_term_ends_it(self):
        for term in (1, 2, 30, 371):
            begins = (0, "begins", "a", "ann", term)
            for tail, fate in ((("changes", "b"), "takes"), (("changes", "a"), "same"), (("ends",), "takes"),
                               (("gives", "bob"), "takes"), (("pauses",), "takes"), (("resumes",), "running")):
                self.due((begins, (term - 1,) + tail), ["takes", fate])
                self.due((begins, (term,) + tail), ["takes", "over"])
                if term < 371:
                    self.due((begins, (term + 1,) + tail), ["takes", "over"])
        self.due(((3, "begins", "a", "ann", 4), (6, "pauses")), ["takes", "takes"])
        self.due(((3, "begins", "a", "ann", 4), (7, "pauses")), ["takes", "over"])
        self.due(((3, "begins", "a", "ann", 0), (371, "pauses")), ["takes", "takes"])
        self.due(((0, "begins", "a", "ann", 400), (371, "pauses")), ["takes", "takes"])

    def test_a_pause_moves_its_end(self):
        told = ((0, "begins", "a", "ann", 5), (2, "pauses"), (10, "resumes"))
        self.due(told + ((12, "pauses"),), ["takes"] * 4)
        self.due(told + ((13, "pauses"),), ["takes"] * 3 + ["over"])
        self.due(told[:2] + ((100, "ends"),), ["takes"] * 3)
        self.due(((0, "begins", "a", "ann", 1), (0, "pauses"), (200, "resumes"), (201, "pauses")),
                 ["takes"] * 3 + ["over"])
        self.due(((0, "begins", "a", "ann", 3), (1, "pauses"), (1, "resumes"), (2, "pauses"), (2, "resumes"),
                  (3, "pauses")), ["takes"] * 5 + ["over"])

    def test_every_choice_of_some_notes(self):
        pools = (
            ((0, "begins", "a", "x", 3), (0, "pauses"), (1, "begins", "b", "y", 2), (1, "changes", "b"),
             (1, "pauses"), (2, "gives", "y"), (2, "resumes"), (3, "changes", "a"), (3, "pauses"), (4, "ends"),
             (4, "resumes"), (5, "gives", "x")),
            ((1, "begins", "a", "x", 1), (1, "begins", "a", "x", 2), (1, "ends"), (1, "gives", "x"), (1, "pauses"),
             (1, "resumes"), (2, "pauses"), (2, "resumes"), (3, "changes", "b"), (3, "pauses"), (4, "resumes"),
             (5, "resumes")))
        for pool in pools:
            for notes in some_of(pool):
                due = Due(notes)
                same(self, fates(notes), due.fates)
                for day in range(8):
                    same(self, day_of(notes, day), due.day_of(day))

    def test_lists_told_are_the_askers_own(self):
        notes = (BEGINS, (1, "pauses"))
        told = fates(notes)
        told.append("more")
        told[0] = "there"
        same(self, fates(notes), ["takes", "takes"])
        empty = fates(())
        empty.append("more")
        same(self, fates(()), [])
        same(self, notes, (BEGINS, (1, "pauses")))


class TestDayOf(unittest.TestCase):
    def due(self, notes, day, told):
        same(self, day_of(notes, day), told)
        same(self, Due(notes).day_of(day), told)

    def test_unbegun(self):
        for day in (0, 1, 371):
            self.due((), day, None)
            self.due(((0, "changes", "a"), (0, "pauses")), day, None)
        self.due(((5, "begins", "a", "ann", 0),), 0, None)
        self.due(((5, "begins", "a", "ann", 0),), 4, None)
        self.due(((5, "begins", "a", "ann", 0),), 5, ("ann", "a", False, 0))
        self.due(((371, "begins", "a", "ann", 0),), 370, None)
        self.due(((371, "begins", "a", "ann", 0),), 371, ("ann", "a", False, 0))

    def test_each_day_counts(self):
        notes = ((3, "begins", "a", "ann", 0),)
        for day in range(3, 372):
            same(self, day_of(notes, day), ("ann", "a", False, day - 3))
        same(self, day_of(((0, "begins", "a", "ann", 400),), 371), ("ann", "a", False, 371))

    def test_behind_all_notes_of_the_day(self):
        notes = (BEGINS, (5, "changes", "b"), (5, "changes", "c"), (5, "gives", "bob"), (5, "pauses"))
        self.due(notes, 4, ("ann", "a", False, 4))
        self.due(notes, 5, ("bob", "c", True, 5))
        self.due(notes, 6, ("bob", "c", True, 5))
        self.due((BEGINS, (0, "gives", "bob")), 0, ("bob", "a", False, 0))

    def test_notes_behind_the_day_are_not_read(self):
        notes = (BEGINS, (9, "changes", "b"), (9, "gives", "bob"), (9, "pauses"), (10, "ends"))
        self.due(notes, 8, ("ann", "a", False, 8))
        self.due(notes, 9, ("bob", "b", True, 9))
        self.due(notes, 10, None)

    def test_pauses(self):
        notes = (BEGINS, (2, "pauses"), (5, "resumes"), (7, "pauses"))
        for day, told in enumerate([(False, 0), (False, 1), (True, 2), (True, 2), (True, 2), (False, 2), (False, 3),
                                    (True, 4), (True, 4)]):
            self.due(notes, day, ("ann", "a") + told)
        both = (BEGINS, (2, "pauses"), (2, "resumes"))
        for day in range(5):
            self.due(both, day, ("ann", "a", False, day))
        at_once = (BEGINS, (0, "pauses"), (3, "resumes"))
        for day, told in enumerate([(True, 0), (True, 0), (True, 0), (False, 0), (False, 1)]):
            self.due(at_once, day, ("ann", "a") + told)

    def test_ends(self):
        notes = (BEGINS, (4, "ends"))
        self.due(notes, 3, ("ann", "a", False, 3))
        for day in (4, 5, 371):
            self.due(notes, day, None)
        self.due((BEGINS, (0, "ends")), 0, None)
        self.due((BEGINS, (2, "pauses"), (4, "ends")), 3, ("ann", "a", True, 2))
        self.due((BEGINS, (2, "pauses"), (4, "ends")), 4, None)
        self.due((BEGINS, (4, "ends"), (5, "begins", "b", "bob", 0)), 6, None)

    def test_terms(self):
        for term in (1, 2, 30, 371):
            notes = ((0, "begins", "a", "ann", term),)
            same(self, day_of(notes, term - 1), ("ann", "a", False, term - 1))
            same(self, day_of(notes, term), None)
            same(self, day_of(notes, 371), None)
        notes = ((4, "begins", "a", "ann", 3), (5, "pauses"), (8, "resumes"))
        due = [None] * 4 + [(False, 0), (True, 1), (True, 1), (True, 1), (False, 1), (False, 2), None, None]
        for day, told in enumerate(due):
            self.due(notes, day, None if told is None else ("ann", "a") + told)

    def test_a_note_of_the_day_on_which_the_term_ends_it(self):
        for note in ((3, "pauses"), (3, "changes", "b"), (3, "gives", "bob")):
            notes = ((0, "begins", "a", "ann", 3), note)
            self.due(notes, 2, ("ann", "a", False, 2))
            self.due(notes, 3, None)
            self.due(notes, 4, None)
        notes = ((0, "begins", "a", "ann", 3), (2, "pauses"))
        self.due(notes, 3, ("ann", "a", True, 2))
        self.due(notes, 371, ("ann", "a", True, 2))

    def test_what_does_not_take_changes_nothing(self):
        notes = (BEGINS, (1, "begins", "b", "bob", 1), (1, "changes", "a"), (1, "gives", "ann"), (1, "resumes"))
        self.due(notes, 1, ("ann", "a", False, 1))
        self.due(notes, 9, ("ann", "a", False, 9))
        notes = (BEGINS, (1, "pauses"), (3, "begins", "b", "bob", 1), (3, "pauses"))
        self.due(notes, 9, ("ann", "a", True, 1))


class TestRefusals(unittest.TestCase):
    def wrong_notes(self):
        wrong = wrong_things(lambda thing: isinstance(thing, tuple) and thing in ((), ((0, "ends"),)))
        return wrong + [
            SIXTEEN + ((16, "ends"),), (BEGINS, BEGINS), ((5, "ends"), (4, "ends")), [BEGINS], BEGINS,
            (BEGINS, [1, "ends"]), ((0, "begins", "a", "ann", 401),), ((372, "ends"),), ((-1, "ends"),),
            ((True, "ends"),), ((0, "changes", "A"),), ((0, "gives", "abcdefghi"),), ((0, "stops"),), ({},)]

    def test_no_notes(self):
        refused(self, "NoNotes", fates, self.wrong_notes())
        refused(self, "NoNotes", lambda notes: day_of(notes, 0), self.wrong_notes())
        refused(self, "NoNotes", lambda notes: day_of(notes, 371), self.wrong_notes())

    def test_no_notes_ahead_of_no_day(self):
        for day in wrong_things(within(0, 371)):
            for notes in (None, [], (BEGINS, BEGINS), SIXTEEN + ((16, "ends"),)):
                refusal(self, "NoNotes", day_of, notes, day)

    def test_no_day(self):
        for notes in ((), (BEGINS,), (BEGINS, (3, "ends"))):
            refused(self, "NoDay", lambda day: day_of(notes, day), wrong_things(within(0, 371), 372, -BIG))

    def test_sixteen_are_taken(self):
        same(self, fates(SIXTEEN), ["unbegun"] * 16)
        same(self, day_of(SIXTEEN, 371), None)
        same(self, fates(()), [])

    def test_what_is_handed_in_is_not_changed(self):
        told = [list(BEGINS), [1, "ends"]]
        refusal(self, "NoNotes", program.fates, told)
        same(self, told, [list(BEGINS), [1, "ends"]])
        notes = (BEGINS, (1, "pauses"), (4, "resumes"))
        for _ in range(2):
            same(self, fates(notes), ["takes"] * 3)
            same(self, day_of(notes, 6), ("ann", "a", False, 3))
        same(self, notes, (BEGINS, (1, "pauses"), (4, "resumes")))


if __name__ == "__main__":
    unittest.main()
