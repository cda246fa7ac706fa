"""Floors without end: the fewest that so many cells cost, such cells, and what cells cost."""

from leastrim.errors import BadCells, BadCount
from leastrim.lists import check_kind, cost_of_ends, is_number

MOST_CELLS = 400


def floor_fewest(many, kind):
    """What so many cells cost at the fewest."""
    check_asked(many, kind)
    if many == 0:
        return 0
    if kind == "ties":
        return 2 * root_above(4 * many)
    return root_above(8 * many - 4) + 2


def floor_set(many, kind):
    """So many cells that cost the fewest, in order."""
    check_asked(many, kind)
    if many > MOST_CELLS:
        raise BadCount("cells are listed up to 400")
    return sorted(block(many) if kind == "ties" else diamond(many))


def floor_cost(cells, kind):
    """What these cells cost by this kind."""
    if not are_cells(cells):
        raise BadCells("cells are a list of at most 400 pairs of numbers in order, each once")
    check_kind(kind)
    held = {cell: True for cell in cells}
    ends = [end for cell in cells for end in neighbours(cell) if end not in held]
    return cost_of_ends(ends, kind)


def check_asked(many, kind):
    """Refuses what is no number from 0 on, or no kind, in this turn."""
    if not is_number(many) or many < 0:
        raise BadCount("a count of cells is a number from 0 on")
    check_kind(kind)


def are_cells(thing):
    """Whether it is a list of at most 400 cells in order, each once."""
    if not isinstance(thing, list) or len(thing) > MOST_CELLS:
        return False
    for at, cell in enumerate(thing):
        if not is_cell(cell) or (at > 0 and cell <= thing[at - 1]):
            return False
    return True


def is_cell(thing):
    """Whether it is a pair of two numbers."""
    return isinstance(thing, tuple) and len(thing) == 2 and is_number(thing[0]) and is_number(thing[1])


def neighbours(cell):
    """The four cells that are tied to this one."""
    across, up = cell
    return [(across - 1, up), (across, up - 1), (across, up + 1), (across + 1, up)]


def root_above(number):
    """The least number whose square is no less than this one."""
    return root_below(number - 1) + 1 if number > 0 else 0


def root_below(number):
    """The greatest number whose square is no more than this one, which is no less than 0."""
    if number < 4:
        return min(number, 1)
    # The root of the upper half of the figures leads near to the whole one, and never below
    # it, so that few steps down are left however great the number is.
    half = (number.bit_length() + 1) // 4
    root = (root_below(number >> (2 * half)) + 1) << half
    nearer = (root + number // root) // 2
    while nearer < root:
        root = nearer
        nearer = (root + number // root) // 2
    return root


def block(many):
    """So many cells laid row by row into a block nearly as high as it is wide."""
    width = root_above(many)
    return [divmod(at, width) for at in range(many)]


def diamond(many):
    """So many cells laid ring by ring round one cell."""
    cells = [(0, 0)]
    steps = 0
    while len(cells) < many:
        steps += 1
        cells += ring(steps)
    return cells[:many]


def ring(steps):
    """The cells so many steps from the middle one, going round from beside a corner to that corner."""
    # A corner is taken only behind its neighbour in the ring: so each side makes the rim grow
    # by one and no more, and the last corner by none.
    side = [(step, steps - step) for step in range(1, steps + 1)]
    cells = []
    for quarter in range(4):
        cells += side
        side = [(up, -across) for across, up in side]
    return cells
