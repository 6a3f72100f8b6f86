"""Notes of an order, what becomes of each, and how they let the order stand on a day."""

from dayshares.checks import LAST_DAY, is_name, is_rising, is_tuple_of, is_within
from dayshares.errors import NoDay, NoNotes

MOST_NOTES = 16
MOST_TERM = 400

# How many things a note of each word has.
SIZES = {"begins": 5, "changes": 3, "ends": 2, "gives": 3, "pauses": 2, "resumes": 2}


def is_note(thing):
    """Tells whether thing is a note."""
    if not is_tuple_of(thing, 2, 5) or not is_within(thing[0], 0, LAST_DAY):
        return False
    word = thing[1]
    if not isinstance(word, str) or SIZES.get(word, 0) != len(thing):
        return False
    if word == "begins" and not is_within(thing[4], 0, MOST_TERM):
        return False
    return all([is_name(name) for name in thing[2:4]])


def are_notes(thing):
    """Tells whether thing is a rising tuple of none to sixteen notes."""
    return is_tuple_of(thing, 0, MOST_NOTES) and all([is_note(note) for note in thing]) and is_rising(thing)


def fates(notes):
    """Tells the list of what became of each note: "takes" or its reason."""
    _need_notes(notes)
    return read_all(notes)


def read_all(notes):
    """Tells the list of what became of each note, as fates, of what are known to be notes."""
    standing = Standing()
    told = []
    for note in notes:
        told.append(standing.read(note))
    return told


def day_of(notes, day):
    """Tells (holder, kind, paused, ran) on a day behind all its notes; None where it hasn't begun or is over."""
    _need_notes(notes)
    if not is_within(day, 0, LAST_DAY):
        raise NoDay("a day is a whole number from 0 to 371")
    standing = Standing()
    for note in notes:
        if note[0] <= day:
            standing.read(note)
    standing.run_to(day)
    if standing.begun is None or standing.is_over():
        return None
    return (standing.holder, standing.kind, standing.paused, standing.ran)


class Standing:
    """How an order stands on a day, while its notes are read one behind the other."""

    def __init__(self):
        self.day = 0
        self.begun = None
        self.kind = ""
        self.holder = ""
        self.term = 0
        self.paused = False
        self.ended = False
        self.ran = 0

    def read(self, note):
        """Goes on to the note's day, takes it if it takes, and tells what became of it."""
        self.run_to(note[0])
        fate = self.fate_of(note)
        if fate == "takes":
            self.take(note)
        return fate

    def run_to(self, day):
        """Goes on to a day, and counts the days ahead of it on which the order ran."""
        if self.begun is not None and not self.paused:
            # Days behind its end may be counted, too: what is over stays over, and its ran is not told.
            self.ran = self.ran + day - self.day
        self.day = day

    def is_over(self):
        """Tells whether it is over on the day on which it stands."""
        return self.ended or (self.term > 0 and self.ran >= self.term)

    def stands_to(self, day):
        """Tells up to which day, this one at the most, it stands so where no note is read any more."""
        if self.begun is None or self.is_over():
            return self.day
        if self.paused or self.term == 0:
            return day
        return min(day, self.day + self.term - self.ran)

    def fate_of(self, note):
        """Tells "takes", or the first reason for which the note doesn't."""
        word = note[1]
        if word == "begins":
            return "takes" if self.begun is None else "there"
        if self.begun is None:
            return "unbegun"
        if self.is_over():
            return "over"
        if word == "changes" and note[2] == self.kind:
            return "same"
        if word == "gives" and note[2] == self.holder:
            return "same"
        if word == "pauses" and self.paused:
            return "paused"
        if word == "resumes" and not self.paused:
            return "running"
        return "takes"

    def take(self, note):
        """Does what the note tells, from its day on."""
        word = note[1]
        if word == "begins":
            self.begun = note[0]
            self.kind, self.holder, self.term = note[2:]
        elif word == "changes":
            self.kind = note[2]
        elif word == "gives":
            self.holder = note[2]
        elif word == "ends":
            self.ended = True
        else:
            self.paused = word == "pauses"


def _need_notes(thing):
    if not are_notes(thing):
        raise NoNotes("notes are a rising tuple of none to sixteen notes")
