"""A desk: lines by which a roof is told deeds and asked questions, and the answers to them."""

from dayshares.checks import is_name, is_pence
from dayshares.errors import NoLine
from dayshares.notes import is_note
from dayshares.roof import Roof
from dayshares.sheets import Sheet
from dayshares.texts import things_written

# What may stand behind each word that no note stands behind: N for a name, M for a whole number.
FORMS = {"back": ("",), "names": ("",), "moved": ("",), "days": ("N",), "owes": ("N", "NM"), "paid": ("NM",),
         "sheet": ("M",)}


def _names(roof):
    names = roof.names_now()
    return " ".join(names) if len(names) > 0 else "none"


def _moved(roof):
    rows = roof.moved_now()
    return "; ".join([_spaced(row) for row in rows]) if len(rows) > 0 else "none"


def _days(roof, name):
    return str(len(roof.order_of(name)))


def _owes(roof, holder, month=None):
    return str(roof.owes(holder, month))


def _paid(roof, name, day):
    told = roof.order_of(name).paid_on(day)
    return "nothing" if told is None else _spaced(told)


def _sheet(roof, month):
    # A month that is none is refused where there are no orders, too, of which there is no sheet.
    roof.months.span_of(month)
    orders = tuple([(name, roof.order_of(name)) for name in roof.names_now()])
    return str(Sheet(orders, month).total()) if len(orders) > 0 else "0"


ANSWERS = {"names": _names, "moved": _moved, "days": _days, "owes": _owes, "paid": _paid, "sheet": _sheet}


class Desk:
    """Keeps a roof, and the lines of all deeds that stand."""

    def __init__(self, months, prices):
        self.roof = Roof(months, prices)
        self.months = months
        self.prices = prices
        self.lines = []

    def say(self, line):
        """Tells the answer to a line."""
        word, *things = _asked(line)
        if word in ANSWERS:
            answer = ANSWERS[word]
            return answer(self.roof, *things)
        if word == "back":
            self.roof.back()
            self.lines.pop()
            return "ok"
        if word == "tell":
            self.roof.tells(*things)
        else:
            self.roof.strikes(*things)
        self.lines.append(line)
        return "ok"

    def __len__(self):
        return len(self.lines)

    def __eq__(self, other):
        if not isinstance(other, Desk):
            return False
        # Each deed is written in one way alone, so that deeds are alike where their lines are.
        return self.months == other.months and self.prices == other.prices and self.lines == other.lines

    def __repr__(self):
        return f"Desk({len(self.lines)})"


def _spaced(things):
    return " ".join([str(thing) for thing in things])


def _asked(line):
    """Tells (word, *things) of a line, the things read."""
    if not isinstance(line, str):
        raise NoLine("a line is a text")
    word, *things = things_written(line)
    if word in ("tell", "strike") and len(things) > 0 and is_name(things[0]) and is_note(tuple(things[1:])):
        return (word, things[0], tuple(things[1:]))
    if "".join([_form_of(thing) for thing in things]) not in FORMS.get(word, ()):
        raise NoLine("none of the lines of a desk")
    return (word, *things)


def _form_of(thing):
    """Tells the letter of a word's form, as FORMS has it."""
    if is_name(thing):
        return "N"
    # A number has at most thirty figures.
    return "M" if is_pence(thing) and thing < 10 ** 30 else "?"
