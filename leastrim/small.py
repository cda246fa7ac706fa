"""Small webs: the least lists of a count, chosen places judged, and orders that stay least."""

from leastrim.answers import Beaten, Least
from leastrim.errors import BadNumber
from leastrim.lists import check_count, check_kind, in_twos, is_within
from leastrim.webs import check_web, cost, cost_of, least_cost, least_lists


def fewest(web, many, kind):
    """What so many places cost at the fewest."""
    check_asked(web, many, kind)
    return least_cost(web, many, kind)


def how_many(web, many, kind):
    """How many lists of so many places cost the fewest."""
    check_asked(web, many, kind)
    return len(least_lists(web, many, kind))


def by_number(web, many, kind, number):
    """The least list of so many places that has this number, in the order of lists."""
    check_asked(web, many, kind)
    rows = least_lists(web, many, kind)
    if not is_within(number, 0, len(rows) - 1):
        raise BadNumber("a number is one from 0 to one less than there are least lists")
    return rows[number]


def judged(web, places, kind):
    """A Least, or a Beaten with as many places that cost fewer."""
    paid = cost(web, places, kind)
    best = least_lists(web, len(places), kind)[0]
    if cost_of(web, best, kind) < paid:
        return Beaten(best)
    return Least()


def nested(web, kind):
    """The first order of all places each beginning of which is a least one, or None."""
    check_web(web)
    check_kind(kind)
    size = web[0]
    leading = leading_sets(web, kind)
    order = []
    for step in range(size):
        place = next_place(leading, in_twos(order), size)
        # Only the first step can fail: each later one starts from places that lead on.
        if place is None:
            return None
        order.append(place)
    return order


def check_asked(web, many, kind):
    """Refuses what is no web, no count of its places or no kind, in this turn."""
    check_web(web)
    check_count(many, web[0])
    check_kind(kind)


def leading_sets(web, kind):
    """The least lists from which least ones lead on to all places, each as a number in twos."""
    size = web[0]
    leading = {in_twos(list(range(size))): True}
    for many in reversed(range(size)):
        for places in least_lists(web, many, kind):
            mark = in_twos(places)
            if next_place(leading, mark, size) is not None:
                leading[mark] = True
    return leading


def next_place(leading, mark, size):
    """The first place with which the marked ones become places that lead on, or None."""
    for place in range(size):
        more = mark | (1 << place)
        if more != mark and more in leading:
            return place
    return None
