"""The names and arguments of the interface, each where the document lists it."""

import importlib
import inspect
import unittest

FUNCTIONS = {
    "numbers": (
        "is_int(value)", "check_number(value, name, least, most)", "lowest(top, bottom)", "add_up(one, other)",
        "greater_of(one, other)", "is_at_most(one, other)", "scaled(fraction, number)",
    ),
    "places": ("all_places(size)", "place_of(value, size, name)", "places_of(value, size)"),
    "shapes": (
        "chain(size)", "antichain(size)", "standard(many)", "crown(many, *, reach=0)", "bent()", "stacked(sizes)",
    ),
    "lines": (
        "each_line(order)", "lines_of(order, *, first=0)", "count_lines(order)", "lower_sets(order)",
        "row_of(value, size)", "line_of(order, value)", "is_line(order, row)", "cut_down(row, places)",
        "carried_on(order, places, line)",
    ),
    "swaps": ("unlike_couples(one, other)", "swap_path(order, one, other)"),
    "ties": ("tied(order, *steps)", "single_ties(order)", "tie_path(order, other)", "untied(order, u, v)"),
    "texts": ("order_text(order)", "order_from(text)"),
    "pairs": (
        "pair_in(order, value)", "lot_of(order, value)", "all_pairs(order)", "open_pairs(order)", "sure_pairs(order)",
        "against(order, pair, other)", "pairs_against(order, pair)", "is_quiet(order, lot)",
    ),
    "leading": (
        "leads(order, pair, other)", "led_by(order, pair)", "tight_pairs(order)", "is_tight(order, pair)",
        "tight_for(order, pair)",
    ),
    "turning": ("turns(line, pair)", "line_for(order, lot)"),
    "rings": (
        "is_ring(order, lot, row)", "ring_in(order, lot)", "least_rings(order, lot)", "is_turnable(order, lot)",
        "ring_around(order, chosen)",
    ),
    "lots": (
        "greatest_lots(order, lot)", "least_meetings(order, lot)", "most_at_once(order, lot)",
        "standard_from(order, lot)", "most_against(order)",
    ),
    "chains": (
        "heaviest(order, loads)", "loaded_cover(order, loads)", "width(order)", "widest(order)", "chain_cover(order)",
        "is_a_chain(order, places)", "is_an_antichain(order, places)", "low_line(order, chosen)",
        "high_line(order, chosen)", "both_line(order, chosen, others)",
    ),
    "counts": ("check_fit(order, counts)", "kept_on(order, counts)"),
    "worths": ("worth(order, weights)", "richest(order, weights)"),
    "costs": (
        "cost(order, tolls)", "best_mix(order, tolls)", "best_paper(order, tolls)", "tight_ones(order)",
        "full_cost(order)",
    ),
    "splits": ("couple_costs(order, tolls, x, y)", "split_mix(mix, x, y)", "split_tolls(order, tolls, x, y)"),
    "moving": ("falls(order, tolls)", "moved(order, weights, pair, other)", "moved_down(order, weights)"),
    "endless": ("tolls_against(order, tolls, pair)", "beyond(order, tolls, pair)", "endless(order, tolls, pair)"),
    "games": ("game_value(order, tolls)", "line_side(order, tolls)", "pair_side(order, tolls)"),
    "wholes": ("whole_lines(order, tolls)", "whole_cost(order, tolls)", "dimension(order)"),
    "rowing": (
        "row_turns(order, row)", "row_turns_back(order, row)", "line_of_row(order, row)",
        "chosen_turns(order, chosen, row)", "row_cost(order, tolls)", "row_worth(order, weights)",
    ),
    "families": (
        "family_cost(family, tolls)", "family_mix(family, tolls)", "family_worth(family, weights)", "order_of(family)",
        "family_counts(family, counts)", "table_of(order, tolls)",
    ),
    "rates": ("rate_tolls(family, lot, rates)", "rate_bound(family, tolls, rates)", "lot_bound(order)"),
    "circles": (
        "circles_in(family, lot)", "circle_counts(family, circle)", "is_level(family, weights)",
        "level_parts(family, weights)", "standard_in(order)",
    ),
    "tworows": ("two_rows(order)", "two_row_counts(order, counts)"),
    "filling": (
        "closed_sets(order)", "filled_in(order)", "place_in(order, x)", "fills(order, places)", "needed_places(order)",
    ),
    "putting": (
        "put_in(order, parts)", "part_place(parts, x, u)", "parts_at(parts, number)",
        "cross_counts(order, parts, counts)", "inner_counts(parts, x, counts)", "put_cost(order, tolls, parts, inner)",
        "spread_counts(order, parts, weights, loads)", "put_worth(order, parts, weights, loads, inner)",
        "inner_mix(order, parts, mix, mixes)",
    ),
    "series": ("series_lines(node)", "is_series(order)"),
    "products": (
        "multiplied(*orders)", "ends_of(order)", "end_counts(one, other, tolls, others)",
        "first_line(one, other, line, beside)", "second_line(one, other, line, beside)",
        "product_mix(one, other, mix, mixes)", "with_ends(order)", "end_sort(one, other, line)",
    ),
    "commons": (
        "common_steps(one, other)", "common_mix(one, other, mix, mixes)", "common_bound(one, tolls, other, others)",
        "flipped(counts)",
    ),
    "onemore": (
        "without(order, chosen)", "tolls_without(order, tolls, chosen)", "tolls_at(order, tolls, x)",
        "up_line(order, x, line)", "down_line(order, x, line)", "place_mix(order, tolls, x, mix)",
        "place_bound(order, tolls, x)", "chain_bound(order, tolls, chosen)", "couple_bound(order, tolls, x, y)",
        "couple_line(order, x, y)",
    ),
    "widths": (
        "load_bound(order, tolls, *, upper=False)", "load_mix(order, tolls, *, upper=False)", "tops_bound(order)",
        "number_bound(order)", "half_bound(order)", "best_bound(order)", "clear_two(order, u, v)",
        "is_standard(order)", "is_bent(order)",
    ),
    "tying": (
        "tie_lines(order, u, v, line)", "tie_mix(order, u, v, mix)", "tie_ends(order, tolls, u, v)",
        "both_ties(order, tolls, u, v)", "untied_bound(order, tolls, u, v)",
    ),
    "walking": ("tie_walk(order, tolls)", "place_walk(order)"),
    "shares": ("share_of(order, tolls, lot)", "dearest_ring(order, tolls)", "ring_cost(order, tolls)"),
    "calms": ("corners(order, lot)", "is_calm(order, lot)", "breaking_tolls(order, lot)", "whole_corners(order, lot)"),
    "twochains": ("dearest_couple(order, tolls)", "richest_quiet(order, weights)"),
    "quiets": ("quiet_cost(order, tolls)", "quiet_paper(order, tolls)", "loud_quiet(order, lot)"),
    "evens": (
        "is_clear(order, line)", "mate(order, line)", "clear_line(order)", "even_mix(order)", "is_even(order, mix)",
        "even_place(order, x)",
    ),
    "odds": ("odd_round(order)", "odd_bound(order)"),
    "crowns": (
        "crown_pairs(many, *, reach=0)", "crown_most(reach)", "crown_cost(many, *, reach=0)",
        "crown_line(many, *, reach=0, start=0, turns=())", "crown_mix(many, *, reach=0)",
        "crown_level_counts(many, tolls, *, reach=0)",
    ),
    "valuing": ("is_value(value)", "crown_for(value)"),
    "pointlots": (
        "lots_of_size(points, size)", "graph_family(points, edges)", "ones_at(family)", "family_bound(family)",
        "full_circle(family)",
    ),
    "separates": (
        "separate_steps(order)", "cut_lot(order, chosen)", "cut_line(order, chosen)", "cut_cost(order, tolls)",
        "cut_paper(order, tolls)", "cut_worth(order, weights)", "cut_share(size)",
    ),
    "levels": (
        "beside_step(order)", "levels_of(order)", "level_cost(order, tolls)", "is_forest(order)", "tree_line(order)",
    ),
    "bests": (
        "is_best_mix(order, tolls, mix)", "is_best_paper(order, tolls, paper)", "least_fullness(order, tolls, line)",
        "in_best(order, tolls, line)", "met_just(order, tolls, pair)", "halfway(one, other)",
    ),
    "rises": (
        "cost_at(order, tolls, pair, toll)", "rise(order, tolls, pair)", "drop(order, tolls, pair)",
        "greatest_share(order, tolls, pair)", "least_share(order, tolls, pair)", "critical_toll(order, tolls, pair)",
        "share_mix(order, tolls, pair, *, least=False)",
    ),
    "means": ("mean_place(mix, x)", "mean_mix(order, tolls, x, *, least=False)", "mean_ends(order, tolls, x)"),
    "symmetries": (
        "renamings(order)", "renamed_counts(counts, row)", "renamed_mix(mix, row)", "keeping(order, tolls)",
        "averaged(order, tolls, mix)", "averaged_paper(order, tolls, paper)", "are_exchangeable(order, lot)",
        "exchanged_cost(order)",
    ),
    "many": ("whole_many(order, tolls, many)", "least_times(order, tolls)", "greedy_bound(order)"),
    "between": (
        "cost_ends(low_order, high_order, tolls)", "worth_ends(low_order, high_order, weights)",
        "is_settled(low_order, high_order, tolls)", "orders_between(low_order, high_order)",
        "three_worlds(order, tolls, x, y)",
    ),
    "unseen": (
        "cost_stretch(order, notes)", "tolls_costing(order, notes, fraction)", "best_everywhere(order, paper, notes)",
        "line_regret(order, line, notes)", "richest_everywhere(order, notes)",
    ),
    "listings": ("count_line(x, y, number)", "listing(desk)"),
}

NODE_METHODS = ("size_of(self)", "series_order(self)", "series_tolls(self)", "series_cost(self)", "words(self)")

CLASSES = {
    "turning.Turner": ("__init__(self, order)", "__call__(self, line)"),
    "counts.Counts": (
        "__init__(self, rows=())", "__iter__(self)", "__len__(self)", "__getitem__(self, at)", "__contains__(self, x)",
        "__add__(self, other)", "__mul__(self, other)", "__eq__(self, other)", "with_count(self, x, y, number)",
        "product_sum(self, other)", "total_count(self)", "greatest_count(self)", "covers_all(self, other)",
    ),
    "mixes.Mix": (
        "__init__(self, bottom, rows)", "__iter__(self)", "__len__(self)", "share(self, x, y)", "pays(self, counts)",
        "holds_in(self, order)", "number_of(self, line)", "__add__(self, other)", "__eq__(self, other)",
    ),
    "papers.Paper": (
        "__init__(self, bottom, counts)", "__iter__(self)", "__eq__(self, other)", "value_at(self, tolls)",
        "holds_in_order(self, order)",
    ),
    "families.Family": (
        "__init__(self, points, lots)", "point_pairs(self)", "lot_number(self, points)", "row_pairs(self, row)",
        "__eq__(self, other)",
    ),
    "series.Node": (),
    "series.Leaf": NODE_METHODS,
    "series.Above": ("__init__(self, *nodes, toll=0)",) + NODE_METHODS,
    "series.Beside": ("__init__(self, first, second, *, over=0, back=0)",) + NODE_METHODS,
    "unseen.Notes": (
        "__init__(self, lows, highs)", "agrees(self, counts)", "is_seen(self, x, y)", "unseen_pairs(self)",
        "with_seen(self, x, y, number)", "corner_counts(self, chosen)",
    ),
    "desks.Desk": (
        "__init__(self, order, *, tolls=None, weights=None)", "tie(self, x, y)", "untie(self, x, y)",
        "put_place(self, below, above)", "drop_place(self, x)", "set_toll(self, x, y, number)",
        "set_weight(self, x, y, number)", "put_part(self, x, part)", "add_ends(self)", "turn(self)", "fill(self)",
        "back(self)", "cost_now(self)", "worth_now(self)", "full_now(self)", "mix_now(self)", "paper_now(self)",
        "whole_now(self)", "tight_now(self)", "is_even_now(self)", "bounds_now(self)", "trial(self, *deeds)",
    ),
    "desks.Trial": (
        "__init__(self, desk)", "begin(self)", "keep(self)", "finish(self)", "__enter__(self)",
        "__exit__(self, kind, value, trace)",
    ),
}
MADE = {"ones": "(order)", "at": "(lot, *, number=1)"}

METHODS = (
    "steps_told(self)", "next_steps(self)", "is_below(self, x, y)", "is_under(self, x, y)", "are_open(self, x, y)",
    "below(self, x)", "above(self, x)", "bottoms(self)", "tops(self)", "on(self, places)", "holds(self, other)",
    "ends(self)", "is_chain(self)", "__init__(self, size, steps=())", "__eq__(self, other)", "__contains__(self, x)",
    "__len__(self)", "__iter__(self)", "__add__(self, other)", "__rshift__(self, other)", "__mul__(self, other)",
    "__and__(self, other)", "__invert__(self)",
)

ERRORS = {
    "(self, name)": ("BadNumber", "BadPlace", "BadFraction"),
    "(self, place)": (
        "BadSteps", "HasRing", "BadSet", "BadRow", "BadLine", "BadPair", "BadCounts", "BadLots", "BadRates", "BadMix",
        "BadNotes", "BadParts", "Missing",
    ),
    "(self, low, high)": ("NotOpen", "AreOpen", "NotHeld"),
    "(self, x, y)": ("Unfit", "Crossing"),
    "(self, size)": ("OtherSize",), "(self, number)": ("TooMany",), "(self, line)": ("BadText",),
}
BARE = ("MixError", "NoEnds", "NoPairs", "NotLevel", "NotForest", "NotAlike", "NoLines", "OtherTotal", "NothingBack")


class InterfaceTest(unittest.TestCase):
    def test_functions(self):
        for name, functions in FUNCTIONS.items():
            module = importlib.import_module(f"linemix.{name}")
            for told in functions:
                function = vars(module)[told.partition("(")[0]]
                self.assertTrue(inspect.isfunction(function), told)
                self.assertEqual(function.__module__, module.__name__)
                self.assertEqual(f"{function.__name__}{inspect.signature(function)}", told)

    def test_order(self):
        order = importlib.import_module("linemix.orders").Order
        self.assertEqual(order.__module__, "linemix.orders")
        for told in METHODS:
            method = vars(order)[told.partition("(")[0]]
            self.assertEqual(f"{method.__name__}{inspect.signature(method)}", told)
        self.assertIs(type(vars(order)["empty"]), classmethod)
        self.assertEqual(str(inspect.signature(order.empty)), "(size)")

    def test_classes(self):
        for path, methods in CLASSES.items():
            name, _, told_class = path.partition(".")
            made = vars(importlib.import_module(f"linemix.{name}"))[told_class]
            self.assertEqual(made.__module__, f"linemix.{name}")
            for told in methods:
                method = vars(made)[told.partition("(")[0]]
                self.assertEqual(f"{method.__name__}{inspect.signature(method)}", told)

    def test_nodes(self):
        series = importlib.import_module("linemix.series")
        for kind in (series.Leaf, series.Above, series.Beside):
            self.assertTrue(issubclass(kind, series.Node))
        self.assertNotIn("__init__", vars(series.Leaf))

    def test_properties_and_class_methods(self):
        self.assertIs(type(vars(importlib.import_module("linemix.mixes").Mix)["total"]), property)
        self.assertIs(type(vars(importlib.import_module("linemix.families").Family)["many"]), property)
        for name in ("now", "tolls_now", "weights_now", "deeds_done"):
            self.assertIs(type(vars(importlib.import_module("linemix.desks").Desk)[name]), property)
        counts = importlib.import_module("linemix.counts").Counts
        for name, told in MADE.items():
            self.assertIs(type(vars(counts)[name]), classmethod)
            self.assertEqual(str(inspect.signature(vars(counts)[name].__get__(None, counts))), told)

    def test_attributes_are_set_on_each_object(self):
        turning, mixes, papers, shapes, counts, families, unseen, desks = [
            importlib.import_module(f"linemix.{name}")
            for name in ("turning", "mixes", "papers", "shapes", "counts", "families", "unseen", "desks")
        ]
        self.assertLessEqual({"lows", "highs"}, set(vars(unseen.Notes(counts.Counts(), counts.Counts()))))
        self.assertIn("desk", vars(desks.Trial(desks.Desk(shapes.chain(2)))))
        self.assertLessEqual({"points", "lots"}, set(vars(families.Family(1, []))))
        self.assertIn("order", vars(turning.Turner(shapes.chain(2))))
        self.assertIn("bottom", vars(mixes.Mix(1, ())))
        paper = papers.Paper(1, counts.Counts())
        self.assertTrue("bottom" in vars(paper) and "counts" in vars(paper))

    def test_errors(self):
        errors = importlib.import_module("linemix.errors")
        listed = {name: taken for taken, names in ERRORS.items() for name in names}
        for name, taken in listed.items():
            self.assertEqual(str(inspect.signature(vars(errors)[name].__init__)), taken)
        defined = [name for name, value in vars(errors).items() if isinstance(value, type)]
        self.assertEqual(sorted(defined), sorted([*listed, *BARE]))
        for name in defined:
            self.assertEqual(vars(errors)[name].__module__, "linemix.errors")

    def test_errors_without_arguments_have_no_init_of_their_own(self):
        errors = importlib.import_module("linemix.errors")
        for name in BARE:
            self.assertNotIn("__init__", vars(vars(errors)[name]))
            self.assertEqual(vars(vars(errors)[name]()), {})


if __name__ == "__main__":
    unittest.main()
