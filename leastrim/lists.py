"""Steps over numbers, rising lists and kinds, and their refusals, that the other modules share."""

from leastrim.errors import BadCount, BadKind, BadPlaces

KINDS = ("rim", "ties")


def is_number(thing):
    """Whether it is a whole number; True and False are none."""
    return isinstance(thing, int) and not isinstance(thing, bool)


def is_within(thing, low, high):
    """Whether it is a whole number from the low to the high one, both counted in."""
    return is_number(thing) and low <= thing <= high


def is_choice(thing, size):
    """Whether it is a rising list of numbers from 0 to one less than the size."""
    if not isinstance(thing, list):
        return False
    lowest = 0
    for number in thing:
        if not is_within(number, lowest, size - 1):
            return False
        lowest = number + 1
    return True


def check_places(places, size):
    """Refuses what is no rising list of places below the size."""
    if not is_choice(places, size):
        raise BadPlaces("chosen places are a rising list of places that are there")


def check_count(many, size):
    """Refuses what is no count of places where there are so many as the size."""
    if not is_within(many, 0, size):
        raise BadCount("a count is a number from 0 to as many as there are")


def check_kind(kind):
    """Refuses what is no kind."""
    if not isinstance(kind, str) or kind not in KINDS:
        raise BadKind("a kind is the text rim or the text ties")


def choices(size, many):
    """All rising lists of so many numbers below the size, in the order of lists."""
    rows = [[]]
    for step in range(many):
        # Room is left above for the numbers still to come, so no row is begun in vain.
        end = size - many + step + 1
        rows = [row + [number] for row in rows for number in range(after(row), end)]
    return rows


def after(row):
    """The least number that a rising list may go on with."""
    return row[-1] + 1 if row else 0


def in_twos(row):
    """The number that, written in twos, has a 1 at just these figures."""
    return sum([1 << figure for figure in row])


def cost_of_ends(ends, kind):
    """What is paid where each tie that leads out gives its end outside."""
    return len(ends) if kind == "ties" else len(set(ends))
