"""Plans, their cells and how many there are (points 1, 3, 4)."""

import random
import unittest
from math import lcm

import plain
from shipsrow.errors import BadNumber, BadPart
from shipsrow.plans import Plan, alike, cells, count, more

NO_NUMBERS = [value for value in plain.VALUES if type(value) is not int] + [-1, 10001, 10 ** 30]

# Parts of each kind, with things that are not quite such.
NO_PARTS = [value for value in plain.VALUES if type(value) is not tuple] + [
    (), ("every",), ("every", 2), ("every", 2, 2), ("every", 0, 0), ("every", 7, 0), ("every", 2, -1),
    ("every", -1, 0), ("every", 2, 1, 0), ("every", True, 0), ("every", 2, True), ("every", 2, False),
    ("every", "2", 1), ("every", 2, None), ("every", [2], 1), ("every", 2, [1]), ("every", (2,), 1),
    ("every_back", 6, 6), ("every_back", 7, 1), ("every_back", 1, 1), ("every_back", 1), ("every_back", 1, False),
    ("every_back", True, 0), ("every_back", 3, {}), ("every_forth", 2, 1), ("cell",), ("cell", 6), ("cell", -1),
    ("cell", True), ("cell", False), ("cell", None), ("cell", "1"), ("cell", 1, 1), ("cell", (1,)), ("cell", [1]),
    ("back", 6), ("back", -1), ("back", True), ("back", {}), ("back", 2, 0), ("Cell", 1), (1, "cell"),
    (["cell"], 1), ({}, 1), (None, 2, 1), (("every",), 2, 1), (0, 1), (True, 2, 0), ["cell", 1], ["every", 2, 1],
    ("cell", 10 ** 30), ("every", 10 ** 30, 0)]


def some_plans(seed, many, words=("every", "every_back", "cell", "back"), most_k=6):
    """Plans of no part to four, the same ones each time."""
    source = random.Random(seed)
    parts = [part for part in plain.PARTS if part[0] in words and (len(part) == 2 or part[1] <= most_k)]
    return [tuple(source.sample(parts, source.randint(0, 4))) for _ in range(many)]


class PlanTest(unittest.TestCase):
    def test_parts_and_length(self):
        for parts in [()] + [(part,) for part in plain.PARTS] + some_plans(1, 50):
            plan = Plan(parts)
            self.assertEqual(plan.parts, parts)
            self.assertIs(type(plan.parts), tuple)
            self.assertEqual(len(plan), len(parts))

    def test_equal_if_the_parts_are_in_their_order(self):
        one = Plan((("every", 3, 2), ("back", 0)))
        self.assertEqual(one, Plan((("every", 3, 2), ("back", 0))))
        self.assertFalse(one == Plan((("back", 0), ("every", 3, 2))))
        self.assertTrue(one != Plan((("back", 0), ("every", 3, 2))))
        self.assertFalse(one == Plan((("every", 3, 2),)))
        self.assertEqual(Plan(()), Plan(()))
        self.assertFalse(Plan((("every", 1, 0),)) == Plan((("every_back", 1, 0),)))

    def test_not_equal_to_other_things(self):
        for value in plain.VALUES + [(("cell", 1),)]:
            self.assertFalse(Plan((("cell", 1),)) == value)
            self.assertFalse(Plan(()) == value)

    def assert_bad(self, parts, index):
        with self.assertRaises(BadPart, msg=repr(parts)) as caught:
            Plan(parts)
        self.assertEqual(caught.exception.index, index, parts)

    def test_no_tuple_of_at_most_four_things(self):
        for value in plain.VALUES:
            if type(value) is not tuple:
                self.assert_bad(value, None)
        self.assert_bad([("cell", 1)], None)
        self.assert_bad({("cell", 1): ("cell", 1)}, None)
        self.assert_bad(tuple(("cell", i) for i in range(5)), None)
        self.assert_bad(tuple(plain.PARTS), None)
        self.assert_bad((1, 2, 3, 4, 5), None)
        self.assert_bad((("cell", 1),) * 5, None)

    def test_no_part(self):
        for value in NO_PARTS:
            self.assert_bad((value,), 0)
            self.assert_bad((("every", 2, 1), value), 1)
            self.assert_bad((("every", 2, 1), ("cell", 0), ("back", 5), value), 3)

    def test_equal_to_an_earlier_one(self):
        for part in (("every", 6, 5), ("every_back", 1, 0), ("cell", 0), ("back", 1)):
            self.assert_bad((part, part), 1)
            self.assert_bad((part, ("cell", 3), part), 2)
            self.assert_bad((("cell", 3), part, ("back", 3), part), 3)

    def test_the_first_of_several(self):
        self.assert_bad((("cell", 1), 5, ("cell", 1)), 1)
        self.assert_bad((("cell", 1), ("cell", 1), 5), 1)
        self.assert_bad((None, True, [], {}), 0)
        self.assert_bad((("cell", 1), ("cell", True)), 1)


class CellsTest(unittest.TestCase):
    def test_example(self):
        self.assertEqual(cells(Plan((("every", 3, 2), ("back", 0))), 7), [2, 5, 6])

    def test_each_part_alone(self):
        for part in plain.PARTS:
            for n in range(30):
                self.assertEqual(cells(Plan((part,)), n), plain.plan_cells((part,), n), (part, n))

    def test_several_parts(self):
        for parts in some_plans(2, 100):
            for n in (0, 1, 2, 5, 6, 7, 11, 12, 13, 29, 60):
                self.assertEqual(cells(Plan(parts), n), plain.plan_cells(parts, n), (parts, n))

    def test_no_part_no_cell(self):
        for n in (0, 1, 40, 10000):
            self.assertEqual(cells(Plan(()), n), [])

    def test_bounds(self):
        parts = (("every", 6, 5), ("every_back", 5, 4), ("cell", 5), ("back", 5))
        self.assertEqual(cells(Plan(parts), 10000), plain.plan_cells(parts, 10000))
        self.assertEqual(cells(Plan(parts), 0), [])
        self.assertEqual(cells(Plan((("every", 1, 0),)), 10000), list(range(10000)))

    def test_bad_number(self):
        for n in NO_NUMBERS:
            for parts in ((), (("every", 2, 1),)):
                with self.assertRaises(BadNumber, msg=repr(n)):
                    cells(Plan(parts), n)

    def test_new_lists(self):
        plan = Plan((("every", 2, 0),))
        first = cells(plan, 9)
        first.append(100)
        self.assertEqual(cells(plan, 9), [0, 2, 4, 6, 8])
        self.assertEqual(plan.parts, (("every", 2, 0),))


class CountTest(unittest.TestCase):
    def test_examples(self):
        self.assertEqual(count(Plan((("every", 3, 2), ("back", 0)))), (0, 3, (1, 1, 1), (0, 1, 1)))
        self.assertEqual(count(Plan(())), (0, 1, (0,), (0,)))

    def assert_counted(self, parts):
        start, period, gains, counts = told = count(Plan(parts))
        self.assertEqual(period, lcm(*[part[1] for part in parts if len(part) == 3]), parts)
        self.assertEqual((len(gains), len(counts)), (period, start + period), parts)
        self.assertEqual([type(thing) for thing in told], [int, int, tuple, tuple])
        plain_counts = plain.plan_counts(parts, start + 4 * period + 30)
        self.assertEqual(list(counts), plain_counts[:start + period], parts)
        gained = [plain_counts[n + period] - plain_counts[n] for n in range(start + 3 * period + 30)]
        fits = [gained[n] == gains[n % period] for n in range(len(gained))]
        self.assertTrue(all(fits[start:]), parts)
        self.assertFalse(start > 0 and fits[start - 1], parts)

    def test_one_part(self):
        for part in plain.PARTS:
            self.assert_counted((part,))

    def test_several_parts(self):
        for parts in some_plans(3, 150):
            self.assert_counted(parts)

    def test_single_cells_that_meet(self):
        ends = [part for part in plain.PARTS if len(part) == 2]
        for one in ends:
            for other in ends:
                if one != other:
                    self.assert_counted((one, other))
        self.assert_counted((("cell", 5), ("back", 5)))
        self.assertEqual(count(Plan((("cell", 5), ("back", 5))))[0], 12)

    def test_the_longest_period(self):
        self.assert_counted((("every", 4, 3), ("every_back", 5, 0), ("every", 6, 1), ("every_back", 3, 2)))
        self.assertEqual(count(Plan((("every", 4, 3), ("every_back", 5, 0), ("every", 6, 1))))[1], 60)


class AlikeTest(unittest.TestCase):
    def test_examples(self):
        odd, last = Plan((("every", 2, 1),)), Plan((("every_back", 2, 0),))
        self.assertIs(alike(odd, last), False)
        self.assertIs(alike(odd, odd), True)

    def assert_alike(self, one, other):
        longest = 2 * lcm(*[part[1] for part in one + other if len(part) == 3]) + 40
        wanted = all(plain.plan_cells(one, n) == plain.plan_cells(other, n) for n in range(longest))
        self.assertIs(alike(Plan(one), Plan(other)), wanted, (one, other))
        self.assertIs(alike(Plan(other), Plan(one)), wanted, (one, other))
        return wanted

    def test_parts_told_otherwise(self):
        every = (("every", 1, 0),)
        for k in range(1, 5):
            self.assertTrue(self.assert_alike(every, tuple(("every", k, r) for r in range(k))))
            self.assertTrue(self.assert_alike(every, tuple(("every_back", k, r) for r in range(k))))
        self.assertTrue(self.assert_alike((("every", 2, 1),), (("every", 4, 1), ("every", 4, 3))))
        self.assertTrue(self.assert_alike((("every", 2, 1),), (("every", 6, 1), ("every", 6, 3), ("every", 6, 5))))
        self.assertTrue(self.assert_alike((("every_back", 3, 0),), (("every_back", 6, 3), ("every_back", 6, 0))))
        self.assertTrue(self.assert_alike((("cell", 4), ("every", 2, 0)), (("every", 2, 0), ("cell", 2))))
        self.assertTrue(self.assert_alike((("back", 3), ("every_back", 3, 0)), (("every_back", 3, 0),)))
        self.assertTrue(self.assert_alike((("back", 5), ("every", 1, 0)), (("every_back", 1, 0), ("cell", 5))))
        self.assertTrue(self.assert_alike((("cell", 1), ("back", 1)), (("back", 1), ("cell", 1))))

    def test_almost_alike(self):
        self.assertFalse(self.assert_alike((), (("cell", 5),)))
        self.assertFalse(self.assert_alike((), (("every", 6, 5),)))
        self.assertFalse(self.assert_alike((("cell", 3), ("every", 2, 0)), (("every", 2, 0),)))
        self.assertFalse(self.assert_alike((("every", 4, 3),), (("cell", 3), ("every", 4, 3), ("cell", 5))))
        self.assertFalse(self.assert_alike((("every", 6, 1), ("every", 6, 3)), (("every", 2, 1),)))
        # Alike for up to 8 cells only.
        self.assertFalse(self.assert_alike((("cell", 2), ("cell", 5)), (("every", 3, 2),)))
        self.assertFalse(self.assert_alike((("cell", 1), ("back", 0)), (("cell", 1), ("every_back", 6, 0))))
        self.assertTrue(self.assert_alike((), ()))

    def test_alike_for_long(self):
        """Alike for up to so many cells, and not for one more."""
        longs = ((11, (("cell", 5),), (("every", 6, 5),)),
                 (11, (("back", 4), ("cell", 0)), (("every_back", 6, 4), ("cell", 0))),
                 (39, (("every_back", 3, 1), ("every_back", 4, 1), ("every_back", 2, 0)),
                  (("every_back", 5, 4), ("every_back", 4, 1), ("every_back", 2, 0), ("every_back", 3, 1))),
                 (41, (("every", 4, 3), ("every", 5, 1), ("every", 2, 0), ("every", 3, 0)),
                  (("cell", 1), ("every", 2, 0), ("every", 6, 3), ("every", 4, 3))),
                 (45, (("every_back", 2, 0), ("every_back", 3, 1), ("every_back", 4, 3), ("every_back", 5, 0)),
                  (("every_back", 6, 1), ("every_back", 2, 0), ("back", 5), ("every_back", 4, 3))))
        for most, one, other in longs:
            same = [plain.plan_cells(one, n) == plain.plan_cells(other, n) for n in range(most + 2)]
            self.assertEqual(same, [True] * (most + 1) + [False])
            self.assertFalse(self.assert_alike(one, other))

    def test_pairs_of_single_parts(self):
        for one in plain.PARTS[::3]:
            for other in plain.PARTS[::4]:
                self.assert_alike((one,), (other,))

    def test_many_pairs(self):
        plans = some_plans(4, 40, most_k=3)
        found = [self.assert_alike(one, other) for one in plans for other in plans]
        self.assertIn(True, found)
        self.assertIn(False, found)


class MoreTest(unittest.TestCase):
    def test_examples(self):
        odd, last = Plan((("every", 2, 1),)), Plan((("every_back", 2, 0),))
        self.assertEqual([more(last, odd), more(odd, last)], [1, None])

    def assert_more(self, one, other, longest=400):
        ones, others = plain.plan_counts(one, longest), plain.plan_counts(other, longest)
        for least, lesser, greater in ((more(Plan(one), Plan(other)), others, ones),
                                       (more(Plan(other), Plan(one)), ones, others)):
            wanted = min([n for n in range(longest) if greater[n] > lesser[n]], default=None)
            self.assertEqual(least, wanted, (one, other))

    def test_single_parts(self):
        for one in plain.PARTS[::2]:
            for other in plain.PARTS[1::3]:
                self.assert_more((one,), (other,))

    def test_several_parts(self):
        plans = some_plans(5, 30)
        for one in plans[:15]:
            for other in plans[15:]:
                self.assert_more(one, other)

    def test_far_out(self):
        """The other is ahead for long, by single cells, before the one gets ahead."""
        far = (("every", 6, 5), ("cell", 0), ("cell", 1), ("cell", 2))
        self.assert_more((("every", 5, 4),), far)
        self.assertEqual(more(Plan((("every", 5, 4),)), Plan(far)), 95)
        self.assertEqual(more(Plan(far), Plan((("every", 5, 4),))), 1)

    def test_single_cells_against_others(self):
        """The one gets ahead only where the single cells of the other are all there."""
        ends = (("back", 5), ("cell", 1))
        self.assert_more((("every", 4, 3),), ends)
        self.assertEqual(more(Plan((("every", 4, 3),)), Plan(ends)), 12)
        for parts in some_plans(11, 60):
            for single in (ends, (("cell", 5),), (("back", 0), ("cell", 3), ("back", 4)),
                           (("cell", 0), ("cell", 1), ("back", 2), ("back", 3))):
                self.assert_more(parts, single, 150)

    def test_several_more_at_each_step(self):
        one, other = (("every", 3, 0), ("every", 3, 1)), tuple(("cell", i) for i in range(4))
        self.assert_more(one, other)
        self.assertEqual(more(Plan(one), Plan(other)), 7)
        one = (("every_back", 4, 3), ("every_back", 4, 1))
        other = (("cell", 0), ("every_back", 3, 0), ("back", 1))
        self.assert_more(one, other)
        self.assertEqual(more(Plan(one), Plan(other)), 16)

    def test_never(self):
        for parts in some_plans(6, 20):
            self.assertIsNone(more(Plan(parts), Plan(parts)))
            self.assertIsNone(more(Plan(parts), Plan((("every", 1, 0),))))
            self.assertIsNone(more(Plan(()), Plan(parts)))


if __name__ == "__main__":
    unittest.main()
