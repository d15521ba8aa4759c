"""The names and arguments of the interface, each where the document lists it."""

import importlib
import inspect
import unittest

FUNCTIONS = {
    "numbers": (
        "is_int(value)", "check_number(value, name, least, most)", "lowest(top, bottom)", "add_up(one, other)",
        "greater_of(one, other)", "is_at_most(one, other)", "scaled(fraction, number)",
    ),
    "places": ("all_places(size)", "place_of(value, size, name)", "places_of(value, size)"),
    "shapes": (
        "chain(size)", "antichain(size)", "standard(many)", "crown(many, *, reach=0)", "bent()", "stacked(sizes)",
    ),
    "lines": (
        "each_line(order)", "lines_of(order, *, first=0)", "count_lines(order)", "lower_sets(order)",
        "row_of(value, size)", "line_of(order, value)", "is_line(order, row)", "cut_down(row, places)",
        "carried_on(order, places, line)",
    ),
    "swaps": ("unlike_couples(one, other)", "swap_path(order, one, other)"),
    "ties": ("tied(order, *steps)", "single_ties(order)", "tie_path(order, other)", "untied(order, u, v)"),
    "texts": ("order_text(order)", "order_from(text)"),
}

METHODS = (
    "steps_told(self)", "next_steps(self)", "is_below(self, x, y)", "is_under(self, x, y)", "are_open(self, x, y)",
    "below(self, x)", "above(self, x)", "bottoms(self)", "tops(self)", "on(self, places)", "holds(self, other)",
    "ends(self)", "is_chain(self)", "__init__(self, size, steps=())", "__eq__(self, other)", "__contains__(self, x)",
    "__len__(self)", "__iter__(self)", "__add__(self, other)", "__rshift__(self, other)", "__mul__(self, other)",
    "__and__(self, other)", "__invert__(self)",
)

ERRORS = {
    "(self, name)": ("BadNumber", "BadPlace", "BadFraction"),
    "(self, place)": (
        "BadSteps", "HasRing", "BadSet", "BadRow", "BadLine", "BadPair", "BadCounts", "BadLots", "BadRates", "BadMix",
        "BadNotes", "BadParts", "Missing",
    ),
    "(self, low, high)": ("NotOpen", "AreOpen", "NotHeld"),
    "(self, x, y)": ("Unfit", "Crossing"),
    "(self, size)": ("OtherSize",), "(self, number)": ("TooMany",), "(self, line)": ("BadText",),
}
BARE = ("MixError", "NoEnds", "NoPairs", "NotLevel", "NotForest", "NotAlike", "NoLines", "OtherTotal", "NothingBack")


class InterfaceTest(unittest.TestCase):
    def test_functions(self):
        for name, functions in FUNCTIONS.items():
            module = importlib.import_module(f"linemix.{name}")
            for told in functions:
                function = vars(module)[told.partition("(")[0]]
                self.assertTrue(inspect.isfunction(function), told)
                self.assertEqual(function.__module__, module.__name__)
                self.assertEqual(f"{function.__name__}{inspect.signature(function)}", told)

    def test_order(self):
        order = importlib.import_module("linemix.orders").Order
        self.assertEqual(order.__module__, "linemix.orders")
        for told in METHODS:
            method = vars(order)[told.partition("(")[0]]
            self.assertEqual(f"{method.__name__}{inspect.signature(method)}", told)
        self.assertIs(type(vars(order)["empty"]), classmethod)
        self.assertEqual(str(inspect.signature(order.empty)), "(size)")

    def test_errors(self):
        errors = importlib.import_module("linemix.errors")
        listed = {name: taken for taken, names in ERRORS.items() for name in names}
        for name, taken in listed.items():
            self.assertEqual(str(inspect.signature(vars(errors)[name].__init__)), taken)
        defined = [name for name, value in vars(errors).items() if isinstance(value, type)]
        self.assertEqual(sorted(defined), sorted([*listed, *BARE]))
        for name in defined:
            self.assertEqual(vars(errors)[name].__module__, "linemix.errors")

    def test_errors_without_arguments_have_no_init_of_their_own(self):
        errors = importlib.import_module("linemix.errors")
        for name in BARE:
            self.assertNotIn("__init__", vars(vars(errors)[name]))
            self.assertEqual(vars(vars(errors)[name]()), {})


if __name__ == "__main__":
    unittest.main()
