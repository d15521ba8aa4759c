"""linemix/places.py, and sets of places in [1]."""

import unittest
from itertools import permutations

from linemix.errors import BadPlace, BadSet
from linemix.places import all_places, couples_of, place_of, places_of
from tests.support import Case


class PlacesTest(Case):
    def test_all_places(self):
        self.gives((), all_places, 0)
        self.gives((0,), all_places, 1)
        self.gives((0, 1, 2), all_places, 3)
        self.gives(tuple(range(16)), all_places, 16)

    def test_place_of(self):
        for value in (0, 1, 2):
            self.gives(value, place_of, value, 3, "x")
        self.gives(10 ** 30, place_of, 10 ** 30, 10 ** 30 + 1, "x")
        for value in (-1, 3, 4, True, False, None, 1.0, "1", (1,), [1], {1}):
            self.fails(BadPlace("x"), place_of, value, 3, "x")
        self.fails(BadPlace("u"), place_of, 0, 0, "u")

    def test_places_of_sorts(self):
        for row in permutations((0, 2, 3)):
            self.gives((0, 2, 3), places_of, row, 4)
            self.gives((0, 2, 3), places_of, list(row), 4)
        self.gives((), places_of, (), 4)
        self.gives((), places_of, [], 0)
        self.gives(tuple(range(16)), places_of, list(range(15, -1, -1)), 16)
        self.gives((0, 5), places_of, [5, 0], 10 ** 30)

    def test_places_of_refuses(self):
        for value in (None, 1, True, "01", {0}, {0: 1}, range(2)):
            self.fails(BadSet(-1), places_of, value, 4)
        for wrong in (-1, 4, True, False, None, 1.0, "1", (1,), [1], {}):
            self.fails(BadSet(0), places_of, [wrong], 4)
            self.fails(BadSet(2), places_of, (3, 0, wrong, 17), 4)
        self.fails(BadSet(1), places_of, (0, 0), 4)
        self.fails(BadSet(2), places_of, (3, 1, 3, 9), 4)
        self.fails(BadSet(0), places_of, (0,), 0)

    def test_couples_of(self):
        self.gives([], couples_of, ())
        self.gives([], couples_of, (4,))
        self.gives([(0, 2), (0, 1), (2, 1)], couples_of, (0, 2, 1))
        self.gives([((1, 0), (2, 0))], couples_of, [(1, 0), (2, 0)])

    def test_later_changes_have_no_effect(self):
        value = [2, 0]
        chosen = places_of(value, 3)
        value.append(1)
        self.assertEqual(chosen, (0, 2))


if __name__ == "__main__":
    unittest.main()
