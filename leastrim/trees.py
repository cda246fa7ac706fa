"""Trees: the fewest that so many knots cost, the first such list, and what chosen knots cost."""

from leastrim.errors import BadTree
from leastrim.lists import check_count, check_kind, check_places, is_within
from leastrim.webs import cost_of

MOST_KNOTS = 40

# How a knot and a branch below it join: how the knot stands, how the branch's top knot stands,
# how the knot stands then, and what is paid. A knot stands inside, clear (outside, with nothing
# paid for it yet) or as rim (outside, paid for).
JOINTS = {
    "ties": (
        ("inside", "inside", "inside", 0), ("inside", "clear", "inside", 1),
        ("clear", "inside", "clear", 1), ("clear", "clear", "clear", 0),
    ),
    "rim": (
        ("inside", "inside", "inside", 0), ("inside", "clear", "inside", 1), ("inside", "rim", "inside", 0),
        ("clear", "inside", "rim", 1), ("clear", "clear", "clear", 0), ("clear", "rim", "clear", 0),
        ("rim", "inside", "rim", 0), ("rim", "clear", "rim", 0), ("rim", "rim", "rim", 0),
    ),
}


def tree_fewest(parents, many, kind):
    """What so many knots cost at the fewest."""
    check_asked(parents, many, kind)
    unit = 1 << len(parents)
    return (least_worth(parents, many, kind) + unit - 1) // unit


def tree_set(parents, many, kind):
    """The first list, in the order of lists, of so many knots that cost the fewest."""
    check_asked(parents, many, kind)
    worth = least_worth(parents, many, kind)
    size = len(parents)
    return [knot for knot in range(size) if -worth & share(knot, size)]


def tree_cost(parents, places, kind):
    """What the chosen knots cost by this kind."""
    check_tree(parents)
    check_places(places, len(parents))
    check_kind(kind)
    ties = [(parents[knot], knot) for knot in range(1, len(parents))]
    return cost_of((len(parents), ties), places, kind)


def check_asked(parents, many, kind):
    """Refuses what is no tree, no count of its knots or no kind, in this turn."""
    check_tree(parents)
    check_count(many, len(parents))
    check_kind(kind)


def check_tree(parents):
    """Refuses what is no tree."""
    if not is_tree(parents):
        raise BadTree("a tree is a list of 1 to 40 parents: -1, then for each knot an earlier one")


def is_tree(thing):
    """Whether it is a list of parents, -1 for knot 0 and an earlier knot for each other one."""
    if not isinstance(thing, list) or not 1 <= len(thing) <= MOST_KNOTS:
        return False
    if not is_within(thing[0], -1, -1):
        return False
    return all([is_within(thing[knot], 0, knot - 1) for knot in range(1, len(thing))])


def share(knot, size):
    """What a chosen knot takes off the worth: more than all later knots together."""
    return 1 << (size - 1 - knot)


def least_worth(parents, many, kind):
    """The least worth of so many knots: what they cost, in units, less the shares of the chosen."""
    # All shares together are less than a unit. So the least worth is that of the fewest cost
    # and, among as many knots that cost it, of the first in the order of lists.
    size = len(parents)
    tables = [table_alone(share(knot, size)) for knot in range(size)]
    for knot in range(size - 1, 0, -1):
        above = parents[knot]
        tables[above] = table_joined(tables[above], tables[knot], kind, 1 << size)
    return min([row[many] for row in tables[0].values() if many in row])


def table_alone(taken):
    """For each way a lone knot stands: how many are chosen, and the least worth of these."""
    return {"inside": {1: -taken}, "clear": {0: 0}, "rim": {}}


def table_joined(upper, lower, kind, unit):
    """The table of a knot that gets one more branch."""
    table = {"inside": {}, "clear": {}, "rim": {}}
    for knot, top, then, paid in JOINTS[kind]:
        row = table[then]
        for many, worth in upper[knot].items():
            for more, other in lower[top].items():
                total = worth + other + paid * unit
                if many + more not in row or total < row[many + more]:
                    row[many + more] = total
    return table
