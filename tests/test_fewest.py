"""The fewest cells that catch a fleet, and plans with a cell too many (points 1, 6, 11)."""

import random
import unittest

import plain
from shipsrow.catching import fewest, fewest_cells, first_escape, spare
from shipsrow.errors import BadNumber
from shipsrow.fleets import Fleet
from shipsrow.plans import Plan

NO_NUMBERS = [value for value in plain.VALUES if type(value) is not int] + [-1, 201, 10 ** 30]


def number(told, n):
    """What the form of fewest tells for n."""
    start, period, gain, counts = told
    steps = 0
    while n >= start + period:
        n, steps = n - period, steps + 1
    return counts[n] + steps * gain


class FewestTest(unittest.TestCase):
    def test_examples(self):
        row, ring = Fleet("row", (2,), 0), Fleet("ring", (2,), 0)
        self.assertEqual([fewest(row), fewest(ring), fewest(Fleet("row", (1, 1), 1))],
                         [(0, 2, 1, (0, 0)), (2, 2, 1, (0, 0, 1, 2)), (2, 1, 1, (0, 0, 0))])

    def test_short_seas(self):
        """Against a search through all sets of cells, which the search for long seas gives, too."""
        for fleet in plain.FLEETS:
            told = fewest(Fleet(*fleet))
            wanted = [plain.searched_fewest(fleet, n) for n in range(10)]
            self.assertEqual([number(told, n) for n in range(10)], wanted, fleet)
            self.assertEqual(plain.fewest_by_ways(fleet, 10), wanted, fleet)

    def test_long_seas(self):
        for fleet in plain.FLEETS:
            told = fewest(Fleet(*fleet))
            self.assertEqual([number(told, n) for n in range(201)], plain.fewest_by_ways(fleet, 201), fleet)

    def test_kinds_of_values(self):
        for fleet in plain.FLEETS:
            told = fewest(Fleet(*fleet))
            self.assertEqual([type(thing) for thing in told], [int, int, int, tuple])
            self.assertEqual(len(told[3]), told[0] + told[1])
            self.assertEqual(told, fewest(Fleet(*fleet)))

    def test_least_period_and_start(self):
        for fleet in plain.FLEETS:
            start, period, gain, _ = fewest(Fleet(*fleet))
            many = plain.fewest_by_ways(fleet, 120)
            for n in range(start, 120 - period):
                self.assertEqual(many[n + period] - many[n], gain, (fleet, n))
            for less in range(1, period):
                gains = {many[n + less] - many[n] for n in range(60, 120 - less)}
                self.assertGreater(len(gains), 1, (fleet, less))
            if start > 0:
                self.assertNotEqual(many[start - 1 + period] - many[start - 1], gain, fleet)

    def test_single_ships(self):
        """Point 11."""
        for length in range(1, 5):
            for gap in (0, 1):
                row, ring = fewest(Fleet("row", (length,), gap)), fewest(Fleet("ring", (length,), gap))
                for n in range(100):
                    self.assertEqual(number(row, n), n // length)
                    self.assertEqual(number(ring, n), (n + length - 1) // length if n >= length else 0)


class FewestCellsTest(unittest.TestCase):
    def test_they_catch_and_are_so_few(self):
        for fleet in plain.FLEETS:
            told = fewest(Fleet(*fleet))
            for n in list(range(45)) + [97, 199, 200]:
                found = fewest_cells(Fleet(*fleet), n)
                self.assertIs(type(found), tuple)
                self.assertEqual(found, tuple(sorted(set(found))), (fleet, n))
                self.assertTrue(all(type(cell) is int and 0 <= cell < n for cell in found), (fleet, n))
                self.assertEqual(len(found), number(told, n), (fleet, n))
                self.assertIsNone(plain.least_escape(fleet, n, found), (fleet, n))

    def test_no_place_no_cells(self):
        self.assertEqual(fewest_cells(Fleet("row", (4,), 0), 0), ())
        self.assertEqual(fewest_cells(Fleet("ring", (4,), 0), 3), ())
        self.assertEqual(fewest_cells(Fleet("ring", (1, 1), 1), 3), ())
        self.assertEqual(len(fewest_cells(Fleet("ring", (4,), 0), 4)), 1)

    def test_bad_number(self):
        for fleet in (("row", (2,), 0), ("ring", (3, 4), 1)):
            for n in NO_NUMBERS:
                with self.assertRaises(BadNumber, msg=repr(n)):
                    fewest_cells(Fleet(*fleet), n)

    def test_repeated_calls(self):
        for fleet in plain.FLEETS:
            self.assertEqual(fewest_cells(Fleet(*fleet), 33), fewest_cells(Fleet(*fleet), 33))


class SpareTest(unittest.TestCase):
    LONGEST = 150

    def check(self, parts, fleet):
        few = plain.fewest_by_ways(fleet, self.LONGEST)
        wanted = None
        for n in range(self.LONGEST):
            shot = plain.plan_cells(parts, n)
            if len(shot) > few[n] or plain.least_escape(fleet, n, shot) is not None:
                wanted = n
                break
        found = spare(Plan(parts), Fleet(*fleet))
        self.assertEqual(found, wanted, (parts, fleet))
        return found

    def test_examples(self):
        row = Fleet("row", (2,), 0)
        self.assertIsNone(spare(Plan((("every", 2, 1),)), row))
        self.assertEqual(spare(Plan((("every", 1, 0),)), row), 1)

    def test_plans_that_never_have_a_cell_too_many(self):
        for length in range(1, 5):
            self.assertIsNone(self.check((("every", length, length - 1),), ("row", (length,), 0)))
            self.assertIsNone(self.check((("every_back", length, length - 1),), ("row", (length,), 1)))
        self.assertIsNone(self.check((("every", 1, 0),), ("ring", (1,), 1)))
        self.assertIsNone(self.check((("every", 2, 1), ("every", 4, 3)), ("row", (2,), 0)))

    def test_an_escape_first_and_a_cell_too_many_first(self):
        self.assertEqual(self.check((), ("ring", (3,), 0)), 3)
        self.assertEqual(self.check((("cell", 0),), ("row", (2,), 0)), 1)
        self.assertEqual(self.check((("every", 4, 3),), ("row", (3,), 0)), 3)
        self.assertEqual(self.check((("every", 3, 2),), ("ring", (3,), 0)), 4)
        self.assertEqual(self.check((("every", 3, 2), ("cell", 5)), ("ring", (3, 3), 0)), 3)

    def test_plans_that_leave_one_long_run(self):
        self.assertEqual(self.check((("every", 1, 0),), ("row", (1, 1), 0)), 1)
        self.assertEqual(self.check((("every", 3, 2),), ("row", (2, 3), 0)), 3)
        for fleet in plain.FLEETS:
            for k in range(1, 6):
                self.check((("every", k, k - 1), ("back", 0)), fleet)

    def test_single_parts(self):
        for at, part in enumerate(plain.PARTS):
            for fleet in plain.FLEETS[at % 4::4]:
                self.check((part,), fleet)

    def test_several_parts(self):
        source = random.Random(9)
        for fleet in plain.FLEETS:
            for _ in range(12):
                self.check(tuple(source.sample(plain.PARTS, source.randint(0, 4))), fleet)

    def test_is_never_after_the_first_escape(self):
        source = random.Random(10)
        for fleet in plain.FLEETS:
            parts = tuple(source.sample(plain.PARTS, 2))
            escape = first_escape(Plan(parts), Fleet(*fleet))
            if escape is not None:
                self.assertLessEqual(spare(Plan(parts), Fleet(*fleet)), escape[0])


if __name__ == "__main__":
    unittest.main()
