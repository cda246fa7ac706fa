"""Point 1 over the whole program: the interface as written, lists that are new, and nothing kept or changed."""

import inspect

from leastrim import answers, cubes, errors, floors, small, trees, webs
from tests.helpers import KINDS, Asking, deep, row, star

INTERFACE = [
    (webs, "rim(web, places)"), (webs, "cost(web, places, kind)"),
    (small, "fewest(web, many, kind)"), (small, "how_many(web, many, kind)"),
    (small, "by_number(web, many, kind, number)"), (small, "judged(web, places, kind)"), (small, "nested(web, kind)"),
    (cubes, "cube_fewest(ways, many, kind)"), (cubes, "cube_set(ways, many, kind)"),
    (cubes, "cube_cost(ways, places, kind)"), (cubes, "pushed(ways, places, way)"),
    (cubes, "pushed_down(ways, places)"),
    (floors, "floor_fewest(many, kind)"), (floors, "floor_set(many, kind)"), (floors, "floor_cost(cells, kind)"),
    (trees, "tree_fewest(parents, many, kind)"), (trees, "tree_set(parents, many, kind)"),
    (trees, "tree_cost(parents, places, kind)"),
    (answers.Least, "shows(self, web, chosen, kind)"), (answers.Beaten, "shows(self, web, chosen, kind)"),
    (answers.Beaten, "__init__(self, places)"),
]

# One good question at each door, made anew each time.
QUESTIONS = [
    (webs.rim, lambda: [star(5), [1, 2]]), (webs.cost, lambda: [star(5), [0, 2], "rim"]),
    (small.fewest, lambda: [star(5), 2, "rim"]), (small.how_many, lambda: [star(5), 2, "ties"]),
    (small.by_number, lambda: [star(5), 2, "rim", 3]), (small.judged, lambda: [star(5), [0, 1], "rim"]),
    (small.judged, lambda: [star(5), [1, 2], "rim"]), (small.nested, lambda: [star(5), "ties"]),
    (cubes.cube_fewest, lambda: [9, 77, "rim"]), (cubes.cube_set, lambda: [4, 7, "rim"]),
    (cubes.cube_set, lambda: [4, 7, "ties"]), (cubes.cube_cost, lambda: [4, [1, 5, 15], "rim"]),
    (cubes.pushed, lambda: [3, [1, 5, 7], 0]), (cubes.pushed, lambda: [3, [0, 1], 0]),
    (cubes.pushed_down, lambda: [3, [1, 5, 7]]), (cubes.pushed_down, lambda: [3, [0, 1]]),
    (floors.floor_fewest, lambda: [33, "rim"]), (floors.floor_set, lambda: [9, "rim"]),
    (floors.floor_set, lambda: [9, "ties"]), (floors.floor_cost, lambda: [[(-1, 4), (0, 3), (0, 4)], "rim"]),
    (trees.tree_fewest, lambda: [[-1, 0, 0, 1], 2, "rim"]), (trees.tree_set, lambda: [[-1, 0, 0, 1], 2, "ties"]),
    (trees.tree_cost, lambda: [[-1, 0, 0, 1], [1, 2], "rim"]),
]


def plain(told):
    """What is told, in a form that can be compared later."""
    if isinstance(told, answers.Answer):
        return type(told).__name__, deep(vars(told))
    return deep(told)


class Interface(Asking):
    def test_names_and_arguments(self):
        for holder, written in INTERFACE:
            name = written.partition("(")[0]
            with self.subTest(written=written):
                self.assertIn(name, vars(holder))
                self.assertEqual(name + str(inspect.signature(vars(holder)[name])), written)

    def test_each_refusal_is_a_value_error_of_the_package(self):
        for name in ("BadNumber", "BadWays", "BadWay", "BadCells", "BadTree", "BadCount"):
            self.assertEqual(getattr(errors, name).__mro__[1:3], (errors.RimError, ValueError))


class Promises(Asking):
    def test_each_door_is_asked_here(self):
        asked = {ask.__name__ for ask, question in QUESTIONS}
        named = {written.partition("(")[0] for holder, written in INTERFACE if inspect.ismodule(holder)}
        self.assertEqual(asked, named)

    def test_what_is_handed_in_stays_as_it_was(self):
        for ask, question in QUESTIONS:
            handed = question()
            before = deep(handed)
            ask(*handed)
            self.assertEqual(deep(handed), before, ask)

    def test_what_is_told_is_new(self):
        for ask, question in QUESTIONS:
            handed = question()
            first = ask(*handed)
            wanted = plain(first)
            for told in (first, getattr(first, "places", None)):
                if isinstance(told, list):
                    self.assertFalse(any(told is thing for thing in handed), ask)
                    told.reverse()
                    told.append(99)
            self.assertEqual(plain(ask(*handed)), wanted, ask)
            self.assertEqual(deep(handed), deep(question()), ask)

    def test_what_is_told_is_plain(self):
        for ask, question in QUESTIONS:
            told = ask(*question())
            if isinstance(told, answers.Answer):
                self.are_numbers(getattr(told, "places", []))
            elif ask is floors.floor_set:
                self.assertEqual({(type(cell), type(cell[0]), type(cell[1])) for cell in told}, {(tuple, int, int)})
            elif isinstance(told, list):
                self.are_numbers(told)
            else:
                self.is_number(told)

    def test_numbers_of_0_and_1_are_no_truths(self):
        for kind in KINDS:
            for many in (0, 1):
                self.is_number(small.fewest((2, [(0, 1)]), many, kind))
                self.is_number(small.how_many((1, []), many, kind))
                self.is_number(cubes.cube_fewest(1, many, kind))
                self.is_number(floors.floor_fewest(many, kind))
                self.is_number(trees.tree_fewest([-1, 0], many, kind))
            self.is_number(cubes.cube_cost(1, [0], kind))
            self.is_number(floors.floor_cost([], kind))
            self.is_number(trees.tree_cost([-1, 0], [1], kind))

    def test_what_is_changed_afterwards_is_told_anew(self):
        web = row(4)
        self.assertEqual((small.fewest(web, 2, "rim"), small.nested(web, "ties")), (1, [0, 1, 2, 3]))
        self.assertIs(type(small.judged(web, [0, 1], "rim")), answers.Least)
        web[1].remove((2, 3))
        self.assertEqual((small.fewest(web, 1, "rim"), small.nested(web, "ties")), (0, None))
        self.assertEqual(small.how_many(web, 1, "rim"), 1)
        self.assertEqual(small.by_number(web, 1, "rim", 0), [3])
        self.assertIs(type(small.judged(web, [0], "rim")), answers.Beaten)
        tree = [-1, 0, 0, 0]
        self.assertEqual((trees.tree_fewest(tree, 2, "ties"), trees.tree_set(tree, 2, "ties")), (2, [0, 1]))
        tree[3] = 2
        self.assertEqual((trees.tree_fewest(tree, 2, "ties"), trees.tree_set(tree, 2, "ties")), (1, [0, 1]))
        places = [1, 2]
        self.assertEqual((trees.tree_cost(tree, places, "ties"), cubes.cube_cost(2, places, "ties")), (3, 4))
        places[1] = 3
        self.assertEqual((trees.tree_cost(tree, places, "ties"), cubes.cube_cost(2, places, "ties")), (2, 2))
        self.assertEqual((cubes.pushed(2, places, 1), cubes.pushed_down(2, places)), ([1, 3], [0, 2]))
        places.pop()
        self.assertEqual((cubes.pushed(2, places, 1), cubes.pushed_down(2, places)), ([1], [0]))
        cells = [(0, 0), (0, 1)]
        self.assertEqual(floors.floor_cost(cells, "rim"), 6)
        cells.append((1, 0))
        self.assertEqual(floors.floor_cost(cells, "rim"), 7)

    def test_the_same_question_has_the_same_answer(self):
        for ask, question in QUESTIONS:
            self.assertEqual(len({plain(ask(*question())) for again in range(3)}), 1, ask)
