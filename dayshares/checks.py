"""What plain things are: whole numbers, pence, names, rising rows."""

from dayshares.errors import NoName

# Twelve months of 31 days have 372 days, numbered from 0.
LAST_DAY = 371


def is_whole(thing):
    """Tells whether thing is a whole number; a truth is none, though Python counts it as an int."""
    return isinstance(thing, int) and not isinstance(thing, bool)


def is_within(thing, low, high):
    """Tells whether thing is a whole number from low to high."""
    return is_whole(thing) and low <= thing <= high


def is_pence(thing):
    """Tells whether thing is a whole number from 0 on."""
    return is_whole(thing) and thing >= 0


def is_name(thing):
    """Tells whether thing is a text of one to eight small letters."""
    if not isinstance(thing, str) or not 1 <= len(thing) <= 8:
        return False
    return all(["a" <= sign <= "z" for sign in thing])


def need_name(thing):
    """Refuses what is no name."""
    if not is_name(thing):
        raise NoName("a name is a text of one to eight small letters")


def is_tuple_of(thing, low, high):
    """Tells whether thing is a tuple of low to high things."""
    return isinstance(thing, tuple) and low <= len(thing) <= high


def is_rising(things):
    """Tells whether each of the things is above the one ahead; they must be such that compare."""
    return all([things[k] < things[k + 1] for k in range(len(things) - 1)])
