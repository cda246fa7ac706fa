"""Webs: what chosen places have as their rim, and what they cost by either kind."""

from leastrim.errors import BadWeb
from leastrim.lists import check_kind, check_places, choices, cost_of_ends, is_choice, is_within

MOST_PLACES = 10


def rim(web, places):
    """The places outside that are tied to one of those chosen, rising."""
    check_web(web)
    check_places(places, web[0])
    return sorted(set(ends_outside(web, places)))


def cost(web, places, kind):
    """What the chosen places cost by this kind."""
    check_web(web)
    check_places(places, web[0])
    check_kind(kind)
    return cost_of(web, places, kind)


def check_web(web):
    """Refuses what is no web."""
    if not is_web(web):
        raise BadWeb("a web is a pair of 1 to 10 places and a rising list of ties")


def is_web(thing):
    """Whether it is a pair of a number of places and their ties."""
    if not isinstance(thing, tuple) or len(thing) != 2:
        return False
    size, ties = thing
    return is_within(size, 1, MOST_PLACES) and are_ties(ties, size)


def are_ties(thing, size):
    """Whether it is a rising list of ties between places below the size."""
    if not isinstance(thing, list):
        return False
    before = (-1, -1)
    for tie in thing:
        if not is_tie(tie, size) or tie <= before:
            return False
        before = tie
    return True


def is_tie(thing, size):
    """Whether it is a pair of two places below the size, the lesser first."""
    return isinstance(thing, tuple) and len(thing) == 2 and is_choice(list(thing), size)


def ends_outside(web, places):
    """The end outside of each tie that leads out of the places, one for each such tie."""
    held = {place: True for place in places}
    ends = []
    for low, high in web[1]:
        if low in held and high not in held:
            ends.append(high)
        elif high in held and low not in held:
            ends.append(low)
    return ends


def cost_of(web, places, kind):
    """What places cost in a web, where all three are known to be good."""
    return cost_of_ends(ends_outside(web, places), kind)


def least_cost(web, many, kind):
    """What so many places cost at the fewest, where all three are known to be good."""
    return min([cost_of(web, places, kind) for places in choices(web[0], many)])


def least_lists(web, many, kind):
    """All lists of so many places that cost the fewest, in the order of lists."""
    rows = choices(web[0], many)
    costs = [cost_of(web, row, kind) for row in rows]
    low = min(costs)
    return [row for row, paid in zip(rows, costs) if paid == low]
