"""Webs: what chosen places have as their rim, and what they cost by either kind."""

from leastrim.errors import BadKind, BadPlaces, BadWeb
from leastrim.lists import choices, is_choice, is_number

MOST_PLACES = 10
KINDS = ("rim", "ties")


def rim(web, places):
    """The places outside that are tied to one of those chosen, rising."""
    check_web(web)
    check_places(places, web[0])
    return sorted(set(ends_outside(web, places)))


def cost(web, places, kind):
    """What the chosen places cost by this kind."""
    check_web(web)
    check_places(places, web[0])
    check_kind(kind)
    return cost_of(web, places, kind)


def check_web(web):
    """Refuses what is no web."""
    if not is_web(web):
        raise BadWeb("a web is a pair of 1 to 10 places and a rising list of ties")


def check_places(places, size):
    """Refuses what is no rising list of places below the size."""
    if not is_choice(places, size):
        raise BadPlaces("chosen places are a rising list of places that are there")


def check_kind(kind):
    """Refuses what is no kind."""
    if not isinstance(kind, str) or kind not in KINDS:
        raise BadKind("a kind is the text rim or the text ties")


def is_web(thing):
    """Whether it is a pair of a number of places and their ties."""
    if not isinstance(thing, tuple) or len(thing) != 2:
        return False
    size, ties = thing
    return is_number(size) and 1 <= size <= MOST_PLACES and are_ties(ties, size)


def are_ties(thing, size):
    """Whether it is a rising list of ties between places below the size."""
    if not isinstance(thing, list):
        return False
    before = (-1, -1)
    for tie in thing:
        if not is_tie(tie, size) or tie <= before:
            return False
        before = tie
    return True


def is_tie(thing, size):
    """Whether it is a pair of two places below the size, the lesser first."""
    return isinstance(thing, tuple) and len(thing) == 2 and is_choice(list(thing), size)


def ends_outside(web, places):
    """The end outside of each tie that leads out of the places, one for each such tie."""
    ends = []
    for low, high in web[1]:
        if low in places and high not in places:
            ends.append(high)
        elif high in places and low not in places:
            ends.append(low)
    return ends


def cost_of(web, places, kind):
    """What places cost in a web, where all three are known to be good."""
    ends = ends_outside(web, places)
    return len(ends) if kind == "ties" else len(set(ends))


def least_cost(web, many, kind):
    """What so many places cost at the fewest, where all three are known to be good."""
    return min([cost_of(web, places, kind) for places in choices(web[0], many)])
