"""Steps over numbers and rising lists that the other modules share."""


def is_number(thing):
    """Whether it is a whole number; True and False are none."""
    return isinstance(thing, int) and not isinstance(thing, bool)


def is_choice(thing, size):
    """Whether it is a rising list of numbers from 0 to one less than the size."""
    if not isinstance(thing, list):
        return False
    lowest = 0
    for number in thing:
        if not is_number(number) or number < lowest or number >= size:
            return False
        lowest = number + 1
    return True


def choices(size, many):
    """All rising lists of so many numbers below the size, in the order of lists."""
    rows = [[]]
    for step in range(many):
        # Room is left above for the numbers still to come, so no row is begun in vain.
        end = size - many + step + 1
        rows = [row + [number] for row in rows for number in range(after(row), end)]
    return rows


def after(row):
    """The least number that a rising list may go on with."""
    return row[-1] + 1 if row else 0
