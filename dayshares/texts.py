"""Notes and prices written as texts, and read from them."""

from dayshares.errors import NoNote, NoNotes, NoPrices, NoText
from dayshares.notes import are_notes, is_note
from dayshares.orders import texts_of
from dayshares.prices import Prices, is_kind_row, is_price_row


def note_shown(note):
    """Tells the text of a note."""
    if not is_note(note):
        raise NoNote("it is no note")
    return texts_of([note])[0]


def notes_shown(notes):
    """Tells the text of notes."""
    if not are_notes(notes):
        raise NoNotes("notes are a rising tuple of none to sixteen notes")
    return "\n".join(texts_of(notes))


def note_read(text):
    """Tells the note that a text writes."""
    notes = _written_notes(_lines_of(text))
    if len(notes) > 1:
        raise NoText(len(notes))
    return notes[0]


def notes_read(text):
    """Tells the notes that a text writes."""
    lines = _lines_of(text)
    if lines == ["none"]:
        return ()
    notes = _written_notes(lines)
    if not are_notes(notes):
        raise NoText(len(lines))
    return notes


def prices_read(text):
    """Tells the prices that a text writes."""
    lines = _lines_of(text)
    kinds = []
    notes = []
    for at in range(len(lines)):
        thing = things_written(lines[at])
        if is_kind_row(thing) and len(notes) == 0:
            kinds.append(thing)
        elif is_price_row(thing):
            notes.append(thing)
        else:
            raise NoText(at)
    try:
        return Prices(tuple(kinds), tuple(notes))
    except NoPrices:
        raise NoText(len(lines)) from None


def things_written(line):
    """Tells the tuple of the words of a line, those that write a whole number as that number."""
    return tuple([int(word) if _writes_number(word) else word for word in line.split(" ")])


def _writes_number(word):
    return word.isascii() and word.isdigit() and (word == "0" or not word.startswith("0"))


def _lines_of(text):
    if not isinstance(text, str):
        raise NoText(-1)
    return text.split("\n")


def _written_notes(lines):
    """Tells the tuple of the notes that lines write, each its own."""
    notes = []
    for at in range(len(lines)):
        thing = things_written(lines[at])
        if not is_note(thing):
            raise NoText(at)
        notes.append(thing)
    return tuple(notes)
