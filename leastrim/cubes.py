"""Cubes: the fewest that so many places cost, such places, and places pushed to one side."""

from leastrim.errors import BadWay, BadWays
from leastrim.lists import check_count, check_kind, check_places, choices, cost_of_ends, in_twos, is_within

MOST_WAYS = 40
MOST_LISTED_WAYS = 10


def cube_fewest(ways, many, kind):
    """What so many places of a cube cost at the fewest."""
    check_asked(ways, MOST_WAYS, many, kind)
    return ties_of_first(ways, many) if kind == "ties" else rim_of_first(ways, many)


def cube_set(ways, many, kind):
    """So many places that cost the fewest, rising."""
    check_asked(ways, MOST_LISTED_WAYS, many, kind)
    return list(range(many)) if kind == "ties" else sorted(first_by_ones(ways, many))


def cube_cost(ways, places, kind):
    """What the chosen places cost by this kind."""
    check_chosen(ways, places)
    check_kind(kind)
    held = {place: True for place in places}
    ends = [end for place in places for end in neighbours(ways, place) if end not in held]
    return cost_of_ends(ends, kind)


def pushed(ways, places, way):
    """The places that are left when those chosen are pushed along this way."""
    check_chosen(ways, places)
    if not is_within(way, 0, ways - 1):
        raise BadWay("a way is a number from 0 to one less than there are ways")
    return pushed_along(places, way)


def pushed_down(ways, places):
    """The places that are left when those chosen are pushed along all ways till nothing changes."""
    check_chosen(ways, places)
    before = places
    now = pushed_round(ways, before)
    while now != before:
        before = now
        now = pushed_round(ways, before)
    return now


def check_ways(ways, most):
    """Refuses what is no number of ways, from 1 to the most."""
    if not is_within(ways, 1, most):
        raise BadWays("ways are a number from 1 to as many as are gone through here")


def check_asked(ways, most, many, kind):
    """Refuses what is no number of ways, no count of the cube's places or no kind, in this turn."""
    check_ways(ways, most)
    check_count(many, 1 << ways)
    check_kind(kind)


def check_chosen(ways, places):
    """Refuses what is no number of listed ways, or are no places of such a cube, in this turn."""
    check_ways(ways, MOST_LISTED_WAYS)
    check_places(places, 1 << ways)


def neighbours(ways, place):
    """The places that are tied to this one."""
    return [place ^ (1 << way) for way in range(ways)]


def ties_of_first(ways, many):
    """What the first so many numbers cost by ties."""
    total = 0
    for way in range(ways):
        # Along a way the ties join the two halves of each block of this length, so that only
        # the last block, if it is begun and not full, has ties that lead out.
        block = 2 << way
        begun = many & (block - 1)
        total += min(begun, block - begun)
    return total


def rim_of_first(ways, many):
    """What the first so many places in the order by ones cost by rim."""
    if many == 0:
        return 0
    level = 0
    left = many
    while left > ways_to_choose(ways, level):
        left -= ways_to_choose(ways, level)
        level += 1
    # The levels below are full: outside are the rest of this one and what is tied in the next.
    return ways_to_choose(ways, level) - left + tied_above(ways, level, left)


def tied_above(ways, level, many):
    """How many places with one more 1 are tied to the first so many of those with a level of ones."""
    total = 0
    while many > 0 and ways > 0:
        # Ahead are the places with a 1 at the first way; either they hold all that are asked
        # for, or they reach all above that have a 1 there, and the rest goes on without it.
        ways -= 1
        ahead = ways_to_choose(ways, level - 1)
        if many <= ahead:
            level -= 1
        else:
            total += ways_to_choose(ways, level)
            many -= ahead
    return total


def ways_to_choose(size, many):
    """How many lists of so many numbers below the size there are; none of fewer than 0."""
    if many < 0:
        return 0
    total = 1
    for step in range(many):
        total = total * (size - step) // (step + 1)
    return total


def first_by_ones(ways, many):
    """The first so many places, by how many figures are 1 and then by the first unlike figure."""
    places = []
    level = 0
    while len(places) < many:
        # The order of lists puts the one with the lesser figure at the first unlike one ahead.
        places += [in_twos(row) for row in choices(ways, level)]
        level += 1
    return places[:many]


def pushed_along(places, way):
    """The places pushed along one way, rising, where all are known to be good."""
    bit = 1 << way
    held = {place: True for place in places}
    moved = [place ^ bit if place & bit and (place ^ bit) not in held else place for place in places]
    return sorted(moved)


def pushed_round(ways, places):
    """The places pushed along each way once, from way 0 on."""
    for way in range(ways):
        places = pushed_along(places, way)
    return places
