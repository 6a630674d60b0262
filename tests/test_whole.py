"""What the document promises over the whole program, of each function of the interface."""

import unittest
from copy import deepcopy
from importlib import import_module
from inspect import signature

from halveline.desk import Desk
from halveline.errors import LineError
from halveline.keepers import Keeper

ONE = [(0, 0), (4, 1), (1, 5), (4, 1)]
OTHER = [(2, 2), (7, -3), (-1, 4)]
ROW, NEXT = [(5, 0), (1, 0), (1, 0)], [(2, 1), (9, 1)]
CAKE, PIE = [(0, 0), (4, 0), (6, 3), (3, 7), (-1, 4)], [(9, 1), (12, 2), (8, 6)]
CLOUDS = [[(0, 0, 0), (4, 1, 2)], [(1, 5, -1)], [(3, 3, 0), (-2, 1, 7)]]

# Of each file of the interface: its functions, their arguments in the interface's order, with things to hand in.
INTERFACE = {
    "points": [
        ("is_point", {"thing": (1, 2)}), ("is_heap", {"thing": ONE}), ("places", {"heap": ONE}),
        ("turn", {"one": (0, 0), "two": (3, 1), "three": (1, 5)}),
    ],
    "lines": [
        ("is_line", {"thing": (1, -2, 3)}), ("through", {"one": (0, 0), "other": (4, 1)}),
        ("side", {"line": (1, -2, 3), "point": (1, 2)}), ("counts", {"line": (1, -2, 3), "heap": ONE}),
        ("halves", {"line": (1, -2, 3), "heap": ONE}),
    ],
    "pointtexts": [
        ("write_heap", {"heap": ONE}), ("write_line", {"line": (1, -2, 3)}), ("read_point", {"text": "1,2"}),
        ("read_heap", {"text": "1,2 3,4"}), ("read_line", {"text": "1 -2 3"}),
    ],
    "normals": [
        ("is_normal", {"thing": (1, -2)}), ("value", {"normal": (1, -2), "point": (5, 3)}),
        ("is_ahead", {"one": (1, -2), "other": (0, 1)}), ("between", {"one": (1, -2), "other": (0, 1)}),
    ],
    "middles": [
        ("middle", {"heap": ONE, "normal": (1, -2)}), ("slopes", {"heap": ONE}), ("rank", {"heap": ONE, "normal": (1, 0)}),
        ("bisectors", {"heap": ONE}),
    ],
    "pairs": [("halving", {"one": ONE, "other": OTHER})],
    "narrowing": [
        ("odd_part", {"heap": ONE}), ("gap", {"one": ONE[:3], "other": OTHER, "arrow": (-1, 2)}),
        ("narrowed", {"one": ONE, "other": OTHER}),
    ],
    "alllines": [("all_lines", {"one": ONE, "other": OTHER}), ("are_plain", {"one": ONE, "other": OTHER})],
    "space": [
        ("flat_through", {"one": (0, 0, 0), "two": (1, 5, 2), "three": (3, 1, 1)}),
        ("flat_side", {"flat": (1, 2, 3, 4), "spot": (5, 6, 7)}),
        ("flat_counts", {"flat": (1, 2, 3, 4), "cloud": CLOUDS[0]}),
        ("flat_halves", {"flat": (1, 2, 3, 4), "cloud": CLOUDS[0]}),
    ],
    "flats": [("halving_flat", {"one": CLOUDS[0], "two": CLOUDS[1], "three": CLOUDS[2]})],
    "cakes": [
        ("is_cake", {"thing": CAKE}), ("area", {"cake": CAKE}), ("below", {"cake": CAKE, "arrow": (3, -1), "n": 9, "d": 2}),
    ],
    "cuts": [
        ("cut", {"cake": CAKE, "arrow": (3, -1)}), ("near_cut", {"cake": CAKE, "arrow": (3, -1), "many": 10 ** 9}),
        ("exact_cut", {"cake": CAKE, "arrow": (3, -1)}),
    ],
    "slices": [
        ("cut_order", {"one": CAKE, "other": PIE, "arrow": (3, -1)}), ("slice_of", {"one": CAKE, "other": PIE, "steps": 7}),
    ],
    "shares": [("parting", {"one": ONE, "k": 1, "other": OTHER, "m": 2})],
    "tworows": [("row_line", {"one": ROW, "k": 3, "other": NEXT, "m": 1})],
}
FUNCTIONS = [
    (getattr(import_module(f"halveline.{file}"), name), given) for file, rows in INTERFACE.items() for name, given in rows
]


def lists_in(thing):
    """All lists in a told thing, itself too."""
    if not isinstance(thing, (list, tuple)):
        return []
    return [thing] * isinstance(thing, list) + [part for each in thing for part in lists_in(each)]


class EachFunction(unittest.TestCase):
    def test_arguments_by_place_and_by_name_in_any_order(self):
        for function, given in FUNCTIONS:
            with self.subTest(function=function.__name__):
                self.assertEqual(list(signature(function).parameters), list(given))
                told = function(*given.values())
                self.assertEqual(function(**given), told)
                self.assertEqual(function(**dict(reversed(given.items()))), told)

    def test_nothing_that_is_handed_in_is_changed_and_asked_again_the_same_is_told(self):
        for function, given in FUNCTIONS:
            with self.subTest(function=function.__name__):
                before = deepcopy(given)
                first, second = function(**given), function(**given)
                self.assertEqual(given, before)
                self.assertEqual(first, second)
                self.assertIs(type(first), type(second))

    def test_each_told_list_is_the_askers_own(self):
        for function, given in FUNCTIONS:
            with self.subTest(function=function.__name__):
                before = deepcopy(given)
                due = deepcopy(function(**given))
                known = [id(part) for thing in given.values() for part in lists_in(thing)]
                told = function(**given)
                for part in lists_in(told):
                    self.assertNotIn(id(part), known)
                for part in lists_in(told):
                    part.append("more")
                    part.reverse()
                self.assertEqual(given, before)
                self.assertEqual(function(**given), due)

    def test_the_odd_part_of_an_odd_heap_is_a_new_list(self):
        odd_part = import_module("halveline.narrowing").odd_part
        heap = ONE[:3]
        self.assertEqual(odd_part(heap), heap)
        self.assertIsNot(odd_part(heap), heap)


class Objects(unittest.TestCase):
    def test_arguments_of_classes_and_methods(self):
        for method, names in (
            (Keeper, ["one", "other"]), (Keeper.heap, ["self", "which"]), (Keeper.lines, ["self"]),
            (Keeper.come, ["self", "which", "point"]), (Keeper.go, ["self", "which", "point"]),
            (Keeper.step, ["self", "which", "point", "to"]), (Desk, []), (Desk.say, ["self", "row"]),
        ):
            self.assertEqual(list(signature(method).parameters), names)

    def test_every_refusal_is_there(self):
        errors = import_module("halveline.errors")
        for name in "NoLine Empty NoText NoFlat NoShare NoRows Lacking NoRow NoName".split():
            self.assertEqual(getattr(errors, name).__bases__, (LineError,))
        self.assertEqual(LineError.__bases__, (ValueError,))

    def test_a_keeper_and_a_desk_agree(self):
        keeper, desk = Keeper(ONE, OTHER), Desk()
        for name, heap in (("one", ONE), ("other", OTHER)):
            desk.say(" ".join(["heap", name] + [f"{x},{y}" for x, y in heap]))
        for deed, row in (
            (lambda: None, "show one"), (lambda: keeper.come(0, (3, 3)), "add one 3,3"),
            (lambda: keeper.go(1, (2, 2)), "drop other 2,2"), (lambda: keeper.step(0, (4, 1), (-5, 0)), "step one 4,1 -5,0"),
        ):
            deed()
            desk.say(row)
            lines = "; ".join(f"{a} {b} {c}" for a, b, c in keeper.lines())
            self.assertEqual(desk.say("all one other"), lines)
            self.assertEqual(desk.say("show one"), " ".join(f"{x},{y}" for x, y in keeper.heap(0)))


if __name__ == "__main__":
    unittest.main()
