"""How long ships escape an order, and how few shots sink them (points 1, 2, 8)."""

import random
import unittest
from fractions import Fraction
from itertools import permutations

import plain
import plainshots
from shipsrow.errors import BadNumber, BadOrder
from shipsrow.fleets import Fleet, places
from shipsrow.orders import longest, mean, to_sink

NO_NUMBERS = [value for value in plain.VALUES if type(value) is not int] + [-1, 10 ** 30]

# Things that are no cell of a sea of 8 cells.
NO_CELLS = [value for value in plain.VALUES if type(value) is not int] + [-1, 8, 41, 10 ** 30, -10 ** 30, (3,), [3]]


def misses_at(place, order):
    """With how many misses the answers of a place begin."""
    words = plainshots.replies(place, order)
    return next((at for at, word in enumerate(words) if word != "miss"), len(words))


class OrderTest(unittest.TestCase):
    def check(self, fleet, n, order):
        """Hold both against a plain search over all places."""
        found = [(misses_at(place, order), place) for place in plain.places_of(fleet, n)]
        wanted = fraction = None
        if found:
            most = max(misses for misses, _ in found)
            wanted = (most, min(place for misses, place in found if misses == most))
            if most < len(order):
                exact = Fraction(sum(misses + 1 for misses, _ in found), len(found))
                fraction = (exact.numerator, exact.denominator)
        self.assertEqual(longest(Fleet(*fleet), n, order), wanted, (fleet, n, order))
        self.assertEqual(mean(Fleet(*fleet), n, order), fraction, (fleet, n, order))
        return wanted, fraction

    def test_examples(self):
        row = Fleet("row", (2,), 0)
        self.assertEqual(longest(row, 4, [1, 3]), (1, ((2, 3),)))
        self.assertEqual([mean(row, 4, [1, 3]), mean(row, 4, [1])], [(4, 3), None])

    def test_all_orders_in_short_seas(self):
        for fleet in plain.FLEETS:
            for n in range(5):
                for many in range(n + 1):
                    for order in permutations(range(n), many):
                        self.check(fleet, n, list(order))

    def test_drawn_orders(self):
        for source, fleet, n in plainshots.some_seas(31, 250, 20):
            order = source.sample(range(n), source.choice((n, n, source.randint(0, n))))
            self.check(fleet, n, order)

    def test_long_seas(self):
        for source, fleet, n in plainshots.some_seas(32, 25):
            self.check(fleet, n, source.sample(range(n), n))
        for fleet in plain.FLEETS[::7]:
            self.check(fleet, 40, list(range(40)))
            self.check(fleet, 40, list(range(3, 40, 4)) + list(range(0, 40, 4)))

    def test_an_empty_order_misses_all(self):
        for fleet in plain.FLEETS:
            for n in (1, 4, 9, 12):
                for order in ([], ()):
                    found = places(Fleet(*fleet), n)
                    self.assertEqual(longest(Fleet(*fleet), n, order), (0, found[0]) if found else None)
                    self.assertIsNone(mean(Fleet(*fleet), n, order))

    def test_no_cell_and_no_place(self):
        for fleet in plain.FLEETS:
            self.assertEqual(self.check(fleet, 0, []), (None, None))
        for fleet, n in ((("ring", (1, 1), 1), 3), (("row", (4,), 0), 3), (("row", (2, 3), 1), 5)):
            for order in ([], [0], list(range(n)), (2, 1)):
                self.assertIsNone(longest(Fleet(*fleet), n, order))
                self.assertIsNone(mean(Fleet(*fleet), n, order))

    def test_an_order_that_misses_a_place(self):
        self.assertEqual(self.check(("row", (2,), 0), 5, [1]), ((1, ((2, 3),)), None))
        self.assertEqual(self.check(("row", (2,), 0), 5, [0, 4]), ((2, ((1, 2),)), None))
        self.assertEqual(self.check(("row", (2,), 0), 5, [1, 3]), ((1, ((2, 3),)), (3, 2)))

    def test_lowest_terms(self):
        self.assertEqual(mean(Fleet("row", (1,), 0), 3, [0, 1, 2]), (2, 1))
        self.assertEqual(mean(Fleet("row", (1,), 0), 4, [3, 2, 1, 0]), (5, 2))
        self.assertEqual(mean(Fleet("ring", (4,), 0), 4, [2]), (1, 1))
        self.assertEqual(mean(Fleet("ring", (1, 1), 0), 4, [0, 2, 1]), (5, 3))

    def test_the_least_place_of_several(self):
        self.assertEqual(longest(Fleet("row", (2,), 0), 7, [2, 0]), (2, ((3, 4),)))
        self.assertEqual(longest(Fleet("ring", (2,), 0), 7, [3]), (1, ((0, 1),)))

    def test_lists_and_tuples(self):
        fleet, order = Fleet("ring", (1, 2), 1), [4, 1, 6, 0, 2]
        for _ in range(2):
            self.assertEqual(longest(fleet, 7, order), longest(fleet, 7, tuple(order)))
            self.assertEqual(mean(fleet, 7, order), mean(fleet, 7, tuple(order)))
        self.assertEqual(order, [4, 1, 6, 0, 2])

    def test_kinds_of_values(self):
        told = longest(Fleet("row", (1, 2), 0), 5, [0, 3])
        self.assertEqual([type(told), type(told[0]), type(told[1])], [tuple, int, tuple])
        told = mean(Fleet("row", (1, 2), 0), 5, list(range(5)))
        self.assertEqual([type(told), type(told[0]), type(told[1])], [tuple, int, int])


class BadOrderTest(unittest.TestCase):
    def assert_bad(self, n, order, index, fleet=Fleet("row", (2,), 0)):
        for call in (longest, mean):
            for kind in (list, tuple):
                with self.assertRaises(BadOrder, msg=repr(order)) as caught:
                    call(fleet, n, kind(order))
                self.assertEqual(caught.exception.index, index, order)

    def test_no_cell(self):
        for value in NO_CELLS:
            self.assert_bad(8, [value], 0)
            self.assert_bad(8, [value, 1], 0)
            self.assert_bad(8, [0, 7, 3, value], 3)
        self.assert_bad(40, [39, 40], 1)
        self.assert_bad(0, [0], 0)

    def test_stands_earlier(self):
        self.assert_bad(8, [3, 3], 1)
        self.assert_bad(8, [0, 1, 2, 0, 1], 3)
        self.assert_bad(8, [0, 1, False], 2)
        self.assert_bad(8, [1, True], 1)

    def test_the_first_of_several(self):
        self.assert_bad(8, [0, None, 0, 9], 1)
        self.assert_bad(8, [0, 0, None], 1)

    def test_also_without_a_place(self):
        self.assert_bad(3, [0, 3], 1, Fleet("row", (4,), 0))
        self.assert_bad(3, [1, 1], 1, Fleet("ring", (1, 1), 1))
        self.assert_bad(0, [None], 0, Fleet("ring", (1,), 0))

    def test_bad_number_first(self):
        for call in (longest, mean):
            for n in NO_NUMBERS + [41]:
                for order in ([], [0], [None], (1, 1)):
                    with self.assertRaises(BadNumber, msg=repr(n)):
                        call(Fleet("row", (2,), 0), n, order)
            call(Fleet("row", (2,), 0), 40, [39])
            call(Fleet("row", (2,), 0), 0, [])


class ToSinkTest(unittest.TestCase):
    def test_examples(self):
        self.assertEqual([to_sink(Fleet("row", (2,), 0), 4), to_sink(Fleet("row", (1,), 0), 3)], [3, 3])

    def test_against_a_trial_of_all_shots(self):
        for fleet in plain.FLEETS:
            for n in range(7):
                found = plain.places_of(fleet, n)
                wanted = plainshots.tried_to_sink(found, n) if found else None
                self.assertEqual(to_sink(Fleet(*fleet), n), wanted, (fleet, n))

    def test_no_place(self):
        for fleet in plain.FLEETS:
            self.assertIsNone(to_sink(Fleet(*fleet), 0))
        self.assertIsNone(to_sink(Fleet("ring", (1, 1), 1), 3))
        self.assertIsNone(to_sink(Fleet("row", (4,), 0), 3))

    def test_a_ring_as_long_as_a_ship(self):
        for length in range(1, 5):
            self.assertEqual(to_sink(Fleet("ring", (length,), 1), length), length)

    def test_bad_number(self):
        for n in NO_NUMBERS + [7, 40]:
            for fleet in (("row", (2,), 0), ("ring", (4, 4), 1)):
                with self.assertRaises(BadNumber, msg=repr(n)):
                    to_sink(Fleet(*fleet), n)

    def test_repeated_calls(self):
        source = random.Random(33)
        for fleet in source.sample(plain.FLEETS, 6):
            made = Fleet(*fleet)
            told = to_sink(made, 6)
            self.assertEqual(to_sink(made, 6), told)
            self.assertIn(type(told), (int, type(None)))
            self.assertEqual((made.shape, made.ships, made.gap), fleet)


if __name__ == "__main__":
    unittest.main()
