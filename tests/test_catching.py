"""For which numbers of cells a plan surely hits, and where ships escape (points 1, 5, 11)."""

import random
import unittest
from math import lcm

import plain
from shipsrow.catching import catches, first_escape
from shipsrow.fleets import Fleet
from shipsrow.plans import Plan


def period_of(parts):
    return lcm(*[part[1] for part in parts if len(part) == 3])


def some_plans(seed, many, longest_period):
    """Plans of no part to four, whose period is no longer; dense enough to catch some ships."""
    source, found = random.Random(seed), []
    while len(found) < many:
        parts = tuple(source.sample(plain.PARTS, source.choice((1, 2, 3, 3, 4, 4, 4))))
        if period_of(parts) <= longest_period:
            found.append(parts)
    return found


class CatchingTest(unittest.TestCase):
    def check(self, parts, fleet, least_stretch=0):
        """Hold both answers against a plain search, well beyond start + 2 * period."""
        told = catches(Plan(parts), Fleet(*fleet))
        start, period, remainders, early = told
        self.assertEqual([type(thing) for thing in told], [int, int, tuple, tuple])
        stretch = max(start + 3 * period + 12, least_stretch)
        escapes = [plain.least_escape(fleet, n, plain.plan_cells(parts, n)) for n in range(stretch)]
        caught = [place is None for place in escapes]
        self.assertEqual(early, tuple(n for n in range(start) if caught[n]), (parts, fleet))
        self.assertEqual(remainders, tuple(sorted(set(remainders) & set(range(period)))), (parts, fleet))
        for n in range(start, stretch):
            self.assertEqual(caught[n], n % period in remainders, (parts, fleet, n))
        for less in range(1, period):
            self.assertTrue(any(caught[n] != caught[n + less] for n in range(start + period, stretch - less)),
                            (parts, fleet, less))
        if start > 0:
            self.assertNotEqual(caught[start - 1], (start - 1) % period in remainders, (parts, fleet))
        wanted = [(n, place) for n, place in enumerate(escapes) if place is not None][:1]
        self.assertEqual(first_escape(Plan(parts), Fleet(*fleet)), wanted[0] if wanted else None, (parts, fleet))
        return told

    def test_examples(self):
        odd, row, ring = Plan((("every", 2, 1),)), Fleet("row", (2,), 0), Fleet("ring", (2,), 0)
        self.assertEqual([catches(odd, row), catches(odd, ring)], [(0, 1, (0,), ()), (2, 2, (0,), (0, 1))])
        self.assertIsNone(first_escape(odd, row))
        self.assertEqual(first_escape(odd, ring), (3, ((0, 2),)))

    def test_no_plan(self):
        """An empty plan catches where there is no place, and there alone."""
        for fleet in plain.FLEETS:
            start, period, remainders, early = self.check((), fleet)
            self.assertEqual((period, remainders), (1, ()))
            self.assertEqual(early, tuple(range(start)))
            least = plain.places_of(fleet, start)[0]
            self.assertEqual(first_escape(Plan(()), Fleet(*fleet)), (start, least))

    def test_all_cells(self):
        for fleet in plain.FLEETS:
            for parts in ((("every", 1, 0),), (("every_back", 3, 2), ("every_back", 3, 0), ("every_back", 3, 1))):
                self.assertEqual(self.check(parts, fleet), (0, 1, (0,), ()))

    def test_single_parts(self):
        """Each part alone, each with a few fleets, each fleet with many parts."""
        for at, part in enumerate(plain.PARTS):
            for fleet in plain.FLEETS[at % 9::9]:
                self.check((part,), fleet)

    def test_one_part_and_one_ship(self):
        for shape in ("row", "ring"):
            for length in range(1, 5):
                for part in plain.PARTS[::2]:
                    self.check((part,), (shape, (length,), 0), 60)

    def test_several_parts(self):
        for at, parts in enumerate(some_plans(7, 200, 12)):
            for fleet in plain.FLEETS[at % 28::28]:
                self.check(parts, fleet, 3 * period_of(parts) + 23 if at % 10 == 0 else 0)

    def test_parts_from_both_ends(self):
        for k in range(2, 7):
            for r in range(k):
                parts = (("every", k, k - 1), ("every_back", k, r), ("cell", r), ("back", 2))
                for fleet in plain.FLEETS[(k + r) % 5::5]:
                    self.check(parts, fleet)

    def test_dense_plans_that_escape_at_some_remainders(self):
        """Only a few cells are free: whether two ships fit depends on the remainder."""
        for parts in ((("every", 2, 1), ("every_back", 2, 1)), (("every", 3, 2), ("every_back", 3, 1)),
                      (("every", 3, 0), ("every_back", 2, 0)), (("every", 4, 1), ("every_back", 3, 1)),
                      (("every", 2, 0), ("every_back", 4, 3), ("cell", 1), ("back", 4)),
                      (("every", 4, 0), ("every", 4, 2), ("every_back", 6, 5), ("back", 0))):
            for fleet in plain.FLEETS:
                self.check(parts, fleet)

    def test_long_periods(self):
        plans = ((("every", 4, 1), ("every_back", 5, 2), ("every", 6, 3)),
                 (("every", 5, 0), ("every_back", 6, 0)),
                 (("every_back", 4, 3), ("every", 5, 4), ("every_back", 3, 0), ("every", 2, 1)),
                 (("every", 2, 0), ("every_back", 4, 1), ("every_back", 5, 2), ("every_back", 6, 1)))
        for at, parts in enumerate(plans):
            for fleet in plain.FLEETS[at + 8::13]:
                self.check(parts, fleet, 3 * period_of(parts) + 23)

    def test_same_cells_same_answer(self):
        """Parts told otherwise that give the same cells."""
        pairs = (((("every", 2, 1),), (("every", 4, 3), ("every", 4, 1))),
                 ((("every_back", 3, 1),), (("every_back", 6, 1), ("every_back", 6, 4))),
                 ((("every", 2, 0), ("back", 0)), (("back", 0), ("cell", 4), ("every", 2, 0))))
        for one, other in pairs:
            for fleet in plain.FLEETS:
                self.assertEqual(catches(Plan(one), Fleet(*fleet)), catches(Plan(other), Fleet(*fleet)))
                self.assertEqual(first_escape(Plan(one), Fleet(*fleet)), first_escape(Plan(other), Fleet(*fleet)))

    def test_more_parts_catch_what_fewer_do(self):
        """Point 11."""
        for at, parts in enumerate(some_plans(8, 60, 6)):
            for fleet in plain.FLEETS[at % 20::20]:
                whole = self.caught(catches(Plan(parts), Fleet(*fleet)))
                for k in range(len(parts)):
                    fewer = self.caught(catches(Plan(parts[:k] + parts[k + 1:]), Fleet(*fleet)))
                    self.assertTrue(all(whole[n] or not fewer[n] for n in range(200)), (parts, k, fleet))

    def caught(self, told):
        start, period, remainders, early = told
        return [n in early if n < start else n % period in remainders for n in range(200)]

    def test_repeated_calls(self):
        parts = (("every", 3, 1), ("back", 2))
        plan, fleet = Plan(parts), Fleet("ring", (2, 3), 1)
        self.assertEqual(catches(plan, fleet), catches(plan, fleet))
        self.assertEqual(first_escape(plan, fleet), first_escape(plan, fleet))
        self.assertEqual(plan.parts, parts)
        self.assertEqual((fleet.shape, fleet.ships, fleet.gap), ("ring", (2, 3), 1))


if __name__ == "__main__":
    unittest.main()
