"""The examples of the document for what has landed, word for word."""

import unittest

EXAMPLES = """
>>> from linemix.orders import Order
>>> from linemix.lines import lines_of
>>> from linemix.ties import single_ties
>>> order = Order(4, [(0, 2), (1, 2), (1, 3)])
>>> [lines_of(order), single_ties(order)]
[[(0, 1, 2, 3), (0, 1, 3, 2), (1, 0, 2, 3), (1, 0, 3, 2), (1, 3, 0, 2)], ((0, 3), (1, 0), (3, 2))]

>>> from linemix.shapes import chain
>>> square = chain(2) * chain(2)
>>> square.steps_told()
((0, 1), (0, 2), (0, 3), (1, 3), (2, 3))

>>> from linemix.texts import order_from
>>> order_from("order 3\\n0 < 1\\n1 < 0")
raises BadText(3)

>>> from linemix.shapes import antichain
>>> from linemix.rings import least_rings, ring_around
>>> order = antichain(3)
>>> [ring_around(order, (0, 1, 2)), least_rings(order, [(0, 1), (1, 2), (2, 0), (2, 1)])]
[((1, 0), (2, 1), (0, 2)), [((1, 2), (2, 1)), ((0, 1), (1, 2), (2, 0))]]

>>> from linemix.shapes import antichain
>>> from linemix.lots import greatest_lots
>>> greatest_lots(antichain(3), [(0, 1), (1, 2), (2, 0), (2, 1)])
[((0, 1), (1, 2)), ((0, 1), (2, 0), (2, 1)), ((1, 2), (2, 0))]

>>> from linemix.orders import Order
>>> from linemix.chains import heaviest
>>> heaviest(Order(4, [(0, 2), (1, 2), (1, 3)]), [1, 2, 3, 4])
(7, (2, 3))

>>> from linemix.counts import Counts
>>> from linemix.shapes import antichain
>>> from linemix.costs import cost
>>> cost(antichain(3), Counts([(1, 0, 1), (2, 1, 1), (0, 2, 1)]))
(3, 2)

>>> from linemix.counts import Counts
>>> from linemix.shapes import antichain
>>> from linemix.wholes import whole_cost
>>> q = Counts([(1, 0, 1), (2, 1, 1), (0, 2, 1)])
>>> [whole_cost(antichain(3), q), whole_cost(antichain(3), q * 2)]
[2, 3]

>>> from linemix.counts import Counts
>>> from linemix.shapes import antichain
>>> from linemix.endless import endless
>>> endless(antichain(3), Counts([(1, 0, 1), (1, 2, 2), (2, 0, 1)]), (0, 1))
((3, 1), (1, 1))

>>> from linemix.counts import Counts, check_fit
>>> from linemix.shapes import chain
>>> check_fit(chain(2), Counts([(1, 0, 2), (0, 1, 3)]))
raises Unfit(x=0, y=1)

>>> from linemix.families import Family, family_cost
>>> from linemix.rates import rate_tolls
>>> family = Family(3, [(0, 1), (0, 2), (1, 2)])
>>> tolls, factor = rate_tolls(family, [(0, 2), (1, 1), (2, 0)], [1, 2, 3])
>>> [list(tolls), factor, family_cost(family, tolls)]
[[(0, 2, 1), (1, 1, 2), (2, 0, 3)], 6, (6, 1)]

>>> from linemix.orders import Order
>>> from linemix.rowing import row_turns, row_turns_back
>>> order = Order(3, [(1, 2)])
>>> [row_turns(order, (2, 0, 1)), row_turns_back(order, (2, 0, 1))]
[((1, 0),), ((0, 2),)]

>>> from linemix.orders import Order
>>> from linemix.costs import tight_ones
>>> from linemix.families import table_of
>>> order = Order(4, [(0, 2), (1, 2), (1, 3)])
>>> chosen, family, counts = table_of(order, tight_ones(order))
>>> [chosen, family.lots, list(counts)]
[(0, 1, 3), ((0,), (0, 1), (1, 2)), [(0, 2, 1), (1, 0, 1), (2, 1, 1)]]

>>> from linemix.shapes import antichain
>>> from linemix.filling import closed_sets, place_in
>>> [closed_sets(antichain(2)), place_in(antichain(2), 1)]
[[(), (0,), (1,), (0, 1)], 2]

>>> from linemix.bests import in_best
>>> from linemix.counts import Counts
>>> from linemix.means import mean_ends
>>> from linemix.rises import cost_at, critical_toll, greatest_share, rise
>>> from linemix.shapes import antichain
>>> order = antichain(3)
>>> tolls = Counts([(1, 0, 1), (1, 2, 2), (2, 0, 1)])
>>> [cost_at(order, tolls, (0, 1), 1), cost_at(order, tolls, (0, 1), 2), critical_toll(order, tolls, (0, 1))]
[(2, 1), (3, 1), (1, 1)]
>>> [rise(order, tolls, (1, 2)), rise(order, tolls, (1, 0)), greatest_share(order, tolls, (1, 0))]
[(1, 1), (0, 1), (2, 1)]
>>> [in_best(order, tolls, (2, 1, 0)), in_best(order, tolls, (0, 1, 2)), mean_ends(order, tolls, 1)]
[True, False, ((5, 2), (3, 1))]

>>> from linemix.costs import tight_ones
>>> from linemix.many import least_times, whole_many
>>> from linemix.shapes import bent, crown
>>> from linemix.symmetries import exchanged_cost, renamings
>>> ones = tight_ones(bent())
>>> [whole_many(bent(), ones, 1), whole_many(bent(), ones, 2), least_times(bent(), ones)]
[3, 5, 2]
>>> [len(renamings(crown(4, reach=1))), exchanged_cost(crown(4, reach=1))]
[8, (8, 3)]

>>> from linemix.counts import Counts
>>> from linemix.desks import Desk
>>> from linemix.listings import count_line, listing
>>> from linemix.orders import Order
>>> desk = Desk(Order(3, [(0, 1)]), tolls=Counts([(2, 0, 1), (1, 2, 3)]))
>>> [desk.cost_now(), desk.tie(1, 2), desk.back(), desk.deeds_done]
[(3, 1), (1, 1), (3, 1), 0]
>>> desk.trial(("set_toll", 2, 1, 2), ("put_place", [1], []), ("back",), ("back",))
[(5, 1), (5, 1), (5, 1), (3, 1)]
>>> [count_line(2, 0, 1500), listing(desk).split("\\n")[3]]
['    2 over 0        1,500', 'tolls                   2']

>>> from linemix.between import cost_ends, orders_between
>>> from linemix.shapes import antichain, chain
>>> from linemix.unseen import Notes, cost_stretch, line_regret, richest_everywhere
>>> notes = Notes(Counts([(0, 1, 1)]), Counts([(0, 1, 3), (1, 0, 2)]))
>>> [cost_stretch(antichain(2), notes), line_regret(antichain(2), (1, 0), notes)]
[((1, 1), (5, 1)), (1, (0, 1))]
>>> [line_regret(antichain(2), (0, 1), notes), richest_everywhere(antichain(2), notes)]
[(3, (1, 0)), None]
>>> [len(orders_between(antichain(3), chain(3))), cost_ends(antichain(3), chain(3), Counts([(1, 0, 2), (2, 1, 1)]))]
[7, ((2, 1), (2, 1))]

>>> from linemix.shapes import antichain, chain
>>> from linemix.counts import Counts
>>> from linemix.putting import cross_counts, put_cost
>>> parts = [chain(2), antichain(2)]
>>> tolls = Counts([(0, 1, 2), (1, 0, 1)])
>>> inner = [Counts(), Counts([(0, 1, 1), (1, 0, 3)])]
>>> [list(cross_counts(antichain(2), parts, tolls)), put_cost(antichain(2), tolls, parts, inner)]
[[(0, 2, 2), (0, 3, 2), (1, 2, 2), (1, 3, 2), (2, 0, 1), (2, 1, 1), (3, 0, 1), (3, 1, 1)], (4, 1)]

>>> from linemix.series import Above, Beside, Leaf
>>> pile = Above(Leaf(), Leaf(), toll=4)
>>> node = Above(Leaf(), Beside(Leaf(), pile, over=2, back=1))
>>> [node.words(), list(node.series_tolls()), node.series_cost()]
['(1 < (1 , (1 < 1)))', [(1, 2, 2), (1, 3, 2), (2, 1, 1), (3, 1, 1), (3, 2, 4)], 4]

>>> from linemix.shapes import chain
>>> from linemix.counts import Counts
>>> from linemix.costs import cost
>>> from linemix.worths import worth
>>> from linemix.products import end_counts
>>> made = end_counts(chain(2), chain(3), Counts([(1, 0, 3)]), Counts([(1, 0, 4)]))
>>> grid = chain(2) * chain(3)
>>> [list(made), cost(grid, made), worth(grid, made)]
[[(1, 3, 4), (3, 2, 3)], (7, 1), 4]

>>> from linemix.shapes import standard
>>> from linemix.counts import Counts
>>> from linemix.costs import cost
>>> from linemix.onemore import place_bound, tolls_at
>>> tolls = Counts([(0, 3, 1), (1, 4, 2), (2, 5, 4)])
>>> [tolls_at(standard(3), tolls, 2), place_bound(standard(3), tolls, 2), cost(standard(3), tolls)]
[(4, 0), (7, 1), (7, 1)]

>>> from linemix.shapes import antichain
>>> from linemix.counts import Counts
>>> from linemix.tying import both_ties, tie_ends
>>> tolls = Counts([(0, 1, 1), (1, 2, 1)])
>>> [tie_ends(antichain(3), tolls, 0, 2), both_ties(antichain(3), tolls, 0, 2)]
[((1, 1), (2, 1), (2, 1)), ((1, 1), (2, 1), (1, 1))]

>>> from linemix.shapes import standard
>>> from linemix.walking import place_walk
>>> place_walk(standard(3))
[(0, (0, 1)), (1, (2, 1)), (2, (2, 1)), (3, (2, 1)), (4, (2, 1)), (5, (3, 1))]

>>> from linemix.counts import Counts
>>> from linemix.costs import cost
>>> from linemix.quiets import quiet_cost
>>> from linemix.rings import ring_around
>>> from linemix.shapes import antichain
>>> from linemix.shares import ring_cost
>>> from linemix.twochains import dearest_couple
>>> three = antichain(3)
>>> ones = Counts.at(ring_around(three, (0, 1, 2)))
>>> (dearest_couple(three, ones), quiet_cost(three, ones), ring_cost(three, ones), cost(three, ones))
((1, ((0, 2),)), (1, 1), (3, 2), (3, 2))

>>> from linemix.calms import corners
>>> from linemix.leading import tight_pairs
>>> from linemix.shapes import standard
>>> corners(standard(3), tight_pairs(standard(3)))
[(1, (0, 1, 1)), (1, (1, 0, 1)), (1, (1, 1, 0)), (2, (1, 1, 1))]

>>> from linemix.evens import clear_line, even_place, mate
>>> from linemix.orders import Order
>>> order = Order(4, [(0, 2), (1, 2), (1, 3)])
>>> line = clear_line(order)
>>> (line, mate(order, line), even_place(order, 0), even_place(order, 1))
((0, 1, 2, 3), (1, 3, 0, 2), (2, 1), (3, 2))

>>> from linemix.odds import odd_bound, odd_round
>>> from linemix.shapes import bent
>>> (len(odd_round(bent())), odd_bound(bent()))
(5, (5, 2))

>>> from linemix.crowns import crown_cost, crown_line, crown_mix, crown_most
>>> from linemix.turning import turns
>>> line = crown_line(4, reach=1, turns=(0,))
>>> (crown_cost(4, reach=1), crown_mix(4, reach=1).total, crown_most(1), turns(line, (1, 5)), turns(line, (1, 6)))
((8, 3), (8, 3), 3, True, False)

>>> from linemix.valuing import crown_for, is_value
>>> (crown_for((8, 3)), crown_for((4, 1)), crown_for((2, 1)), is_value((3, 2)), is_value((6, 3)))
((4, 1), (4, 0), None, False, True)

>>> from linemix.families import family_cost
>>> from linemix.pointlots import family_bound, full_circle, graph_family, ones_at
>>> graph = graph_family(4, [(0, 1), (1, 2), (2, 0), (2, 3)])
>>> (family_bound(graph), full_circle(graph), family_cost(graph, ones_at(graph)))
(3, (0, 1, 2), (3, 1))

>>> from linemix.costs import cost
>>> from linemix.counts import Counts
>>> from linemix.orders import Order
>>> from linemix.separates import cut_cost, cut_line, cut_share, separate_steps
>>> order = Order(4, [(0, 1), (2, 3)])
>>> tolls = Counts([(0, 3, 1), (2, 1, 1)])
>>> (separate_steps(order), cut_line(order, (0, 2)), cut_cost(order, tolls), cost(order, tolls), cut_share(5))
((0, 1, 2, 3), None, (1, 1), (2, 1), (10, 3))
"""


def shown(source, names):
    """What a statement may show: the value of its expression, or the error that it raises, told in either way."""
    try:
        return [repr(eval(source, names))]
    except ValueError as error:
        plain = ", ".join(repr(value) for value in vars(error).values())
        named = ", ".join(f"{name}={value!r}" for name, value in vars(error).items())
        return [f"raises {type(error).__name__}({told})" for told in (plain, named)]


class ExamplesTest(unittest.TestCase):
    def test_examples(self):
        examples = EXAMPLES.strip().split("\n\n")
        self.assertEqual(len(examples), 32)
        # The last one names Counts as the one ahead of it has imported it: so all share their names.
        names = {}
        self.assertEqual(sum([self.answers_in(example, names) for example in examples]), 39)

    def answers_in(self, example, names):
        """Run an example and compare each answer; the number of its answers."""
        answers = 0
        rows = example.split("\n")
        for row, after in zip(rows, rows[1:] + [">>> "]):
            statement = row.removeprefix(">>> ")
            if row == statement:
                continue
            if after.startswith(">>> "):
                exec(statement, names)
            else:
                self.assertIn(after, shown(statement, names))
                answers += 1
        return answers


if __name__ == "__main__":
    unittest.main()
