"""The places that answers leave, what is sure then, and where to shoot next (points 1, 2, 7, 11)."""

import unittest
from itertools import permutations, product

import plain
import plainshots
from shipsrow.answers import left, surely, telling
from shipsrow.errors import BadNumber, BadSeen
from shipsrow.fleets import Fleet, places

NO_NUMBERS = [value for value in plain.VALUES if type(value) is not int] + [-1, 41, 10 ** 30]

# Things that are no answer in a sea of 8 cells, of every kind and almost right ones.
NO_ANSWERS = plain.VALUES + [
    (3,), ("miss",), (3, "miss", 1), ((3, "miss"),), [3, "miss"], [(3, "miss")], {3: "miss"}, (3, ["miss"]),
    ("miss", 3), (3, "Miss"), (3, "miss "), (3, "sink"), (3, ""), (3, None), (3, 1), (3, True), (3, ("miss",)),
    (3, {}), (-1, "miss"), (8, "miss"), (10 ** 30, "hit"), (True, "miss"), (False, "hit"), ("3", "miss"),
    (None, "sunk"), ((3,), "miss"), ([3], "miss"), ({}, "hit"), (3, "miss", "miss"), ((), ()), "ab"]


class AnswersTest(unittest.TestCase):
    def check(self, fleet, n, seen):
        """Hold all three against a plain search over all places."""
        made, found = Fleet(*fleet), plainshots.fitting(fleet, n, seen)
        self.assertEqual(left(made, n, seen), found, (fleet, n, seen))
        cells = tuple(cell for cell, _ in seen)
        fresh = [cell for cell in range(n) if cell not in cells]
        sure, most = None, []
        if found:
            always = tuple(c for c in fresh if all(plainshots.is_hit_by(place, c) for place in found))
            never = tuple(c for c in fresh if not any(plainshots.is_hit_by(place, c) for place in found))
            sure = (always, never)
            for cell in fresh:
                groups = plainshots.groups_of(found, cells + (cell,))
                most.append((max(len(group) for group in groups.values()), cell))
        self.assertEqual(surely(made, n, seen), sure, (fleet, n, seen))
        self.assertEqual(telling(made, n, seen), min(most)[1] if most else None, (fleet, n, seen))
        return found

    def test_examples(self):
        row = Fleet("row", (2,), 0)
        self.assertEqual(left(row, 4, [(1, "hit")]), [((0, 1),), ((1, 2),)])
        self.assertEqual(surely(row, 4, [(1, "hit")]), ((), (3,)))
        self.assertEqual(telling(row, 4, [(1, "hit")]), 0)

    def test_all_answers_in_short_seas(self):
        for fleet in plain.FLEETS:
            for n in range(5):
                for many in range(min(n, 2) + 1):
                    for cells in permutations(range(n), many):
                        for words in product(plainshots.WORDS, repeat=many):
                            self.check(fleet, n, list(zip(cells, words)))

    def test_all_that_a_place_answers(self):
        for fleet in plain.FLEETS[::3]:
            for n in (5, 6):
                for place in plain.places_of(fleet, n)[::2]:
                    for cells in list(permutations(range(n), 4))[::11]:
                        seen = list(zip(cells, plainshots.replies(place, cells)))
                        self.assertIn(place, self.check(fleet, n, seen))

    def test_drawn_answers(self):
        for source, fleet, n in plainshots.some_seas(21, 150, 16):
            seen = plainshots.some_answers(source, fleet, n, 10)
            self.assertTrue(self.check(fleet, n, seen))

    def test_long_seas(self):
        for source, fleet, n in plainshots.some_seas(22, 12):
            self.check(fleet, n, plainshots.some_answers(source, fleet, n, 30))
        for fleet in plain.FLEETS[::9]:
            self.check(fleet, 40, [(0, "miss"), (39, "miss"), (20, "hit")])

    def test_drawn_answers_with_other_words(self):
        """Of some of them no place is left."""
        empty = 0
        for source, fleet, n in plainshots.some_seas(23, 150, 14):
            cells = source.sample(range(n), min(n, source.randint(1, 5)))
            seen = [(cell, source.choice(("miss", "miss", "hit", "sunk"))) for cell in cells]
            empty += not self.check(fleet, n, seen)
        self.assertGreater(empty, 20)
        self.assertLess(empty, 130)

    def test_no_answer(self):
        for fleet in plain.FLEETS:
            for n in (0, 1, 2, 3, 4, 5, 8, 9):
                self.assertEqual(self.check(fleet, n, []), places(Fleet(*fleet), n))
                self.assertEqual(left(Fleet(*fleet), n, ()), places(Fleet(*fleet), n))

    def test_no_cell_and_no_place(self):
        for fleet, n in ((("row", (1,), 0), 0), (("ring", (1,), 0), 0), (("ring", (1, 1), 1), 3),
                         (("row", (4,), 0), 3), (("ring", (3, 3), 0), 3), (("row", (2, 3), 1), 5)):
            for seen in ([], [(0, "miss")][:n], [(n - 1, "sunk")][:n]):
                self.assertEqual(left(Fleet(*fleet), n, seen), [])
                self.assertIsNone(surely(Fleet(*fleet), n, seen))
                self.assertIsNone(telling(Fleet(*fleet), n, seen))

    def test_answers_that_no_place_fits(self):
        for seen in ([(0, "sunk")], [(0, "hit"), (1, "miss")], [(1, "hit"), (0, "hit")],
                     [(0, "miss"), (2, "miss"), (4, "miss"), (1, "hit")], [(0, "hit"), (1, "sunk"), (2, "hit")]):
            self.assertEqual(self.check(("row", (2,), 0), 5, seen), [])
        self.assertEqual(self.check(("row", (1,), 0), 2, [(0, "miss"), (1, "miss")]), [])

    def test_a_hit_or_the_last_one(self):
        """A ship is sunk by the shot at its last cell, whichever that is, and not ahead."""
        row = Fleet("row", (3,), 0)
        self.assertEqual(left(row, 5, [(2, "hit"), (0, "hit"), (1, "sunk")]), [((0, 1, 2),)])
        self.assertEqual(left(row, 5, [(2, "sunk")]), [])
        self.assertEqual(left(row, 5, [(1, "hit"), (2, "hit")]), [((0, 1, 2),), ((1, 2, 3),)])
        self.assertEqual(left(row, 5, [(3, "miss"), (1, "hit"), (2, "sunk")]), [])
        self.assertEqual(left(Fleet("row", (1,), 0), 3, [(1, "hit")]), [])

    def test_two_ships(self):
        """Each ship is sunk alone; with the gap 1 the cells beside a ship are free."""
        self.assertEqual(left(Fleet("row", (1, 2), 0), 4, [(1, "sunk")]), [((1,), (2, 3))])
        self.assertEqual(left(Fleet("row", (1, 2), 1), 4, [(1, "sunk")]), [])
        self.assertEqual(surely(Fleet("row", (1, 1), 1), 4, [(1, "sunk")]), ((3,), (0, 2)))
        self.assertEqual(surely(Fleet("row", (1, 1), 0), 4, [(1, "sunk")]), ((), ()))

    def test_ships_of_one_length(self):
        """The words don't tell which of the two was hit."""
        self.assertEqual(left(Fleet("row", (2, 2), 0), 5, [(2, "hit"), (0, "miss")]), [((1, 2), (3, 4))])
        self.assertEqual(left(Fleet("row", (1, 1), 0), 3, [(2, "sunk")]), [((0,), (2,)), ((1,), (2,))])
        for n in range(2, 7):
            self.check(("ring", (2, 2), 1), n, [(0, "hit")])
            self.check(("ring", (1, 1), 0), n, [(0, "sunk")])

    def test_a_ring_as_long_as_a_ship(self):
        for length in range(1, 5):
            ring, cells = Fleet("ring", (length,), 0), tuple(range(length))
            words = ["hit"] * (length - 1) + ["sunk"]
            for order in permutations(cells):
                for many in range(length + 1):
                    seen = list(zip(order, words))[:many]
                    self.assertEqual(left(ring, length, seen), [(cells,)])
                    rest = tuple(sorted(order[many:]))
                    self.assertEqual(surely(ring, length, seen), (rest, ()))
                    self.assertEqual(telling(ring, length, seen), rest[0] if rest else None)

    def test_all_cells_shot(self):
        seen = [(0, "miss"), (1, "hit"), (2, "sunk")]
        self.assertEqual(left(Fleet("row", (2,), 0), 3, seen), [((1, 2),)])
        self.assertEqual(surely(Fleet("row", (2,), 0), 3, seen), ((), ()))
        self.assertIsNone(telling(Fleet("row", (2,), 0), 3, seen))

    def test_one_place_left(self):
        """The least fresh cell then, also if all is sunk."""
        self.assertEqual(telling(Fleet("row", (2,), 0), 5, [(1, "hit"), (0, "sunk")]), 2)
        self.assertEqual(surely(Fleet("row", (2,), 0), 5, [(1, "hit"), (0, "sunk")]), ((), (2, 3, 4)))
        self.assertEqual(telling(Fleet("row", (3,), 0), 3, []), 0)

    def test_the_least_of_several(self):
        self.assertEqual(telling(Fleet("ring", (1,), 0), 9, []), 0)
        self.assertEqual(telling(Fleet("row", (2,), 0), 4, []), 0)
        self.assertEqual(telling(Fleet("row", (2,), 0), 5, []), 1)
        self.assertEqual(telling(Fleet("row", (1,), 0), 4, [(0, "miss")]), 1)

    def test_fewer_answers_leave_what_more_leave(self):
        """Point 11."""
        for source, fleet, n in plainshots.some_seas(24, 120, 20):
            seen = plainshots.some_answers(source, fleet, n, 8)
            if source.random() < 0.3 and seen:
                seen[-1] = (seen[-1][0], source.choice(plainshots.WORDS))
            lists = [left(Fleet(*fleet), n, seen[:many]) for many in range(len(seen) + 1)]
            for fewer, more in zip(lists, lists[1:]):
                self.assertLessEqual(set(more), set(fewer), (fleet, n, seen))

    def test_repeated_calls(self):
        fleet, seen = Fleet("ring", (1, 2), 1), [(0, "miss"), (3, "hit")]
        first = left(fleet, 7, seen)
        kept = list(first)
        first.clear()
        for _ in range(2):
            self.assertEqual(left(fleet, 7, seen), kept)
            self.assertEqual(left(fleet, 7, tuple(seen)), kept)
            self.assertEqual(surely(fleet, 7, tuple(seen)), surely(fleet, 7, seen))
            self.assertEqual(telling(fleet, 7, tuple(seen)), telling(fleet, 7, seen))
        self.assertEqual(seen, [(0, "miss"), (3, "hit")])

    def test_kinds_of_values(self):
        fleet = Fleet("row", (1, 3), 0)
        self.assertIs(type(left(fleet, 6, ())), list)
        told = surely(fleet, 6, ((1, "hit"),))
        self.assertEqual([type(told), type(told[0]), type(told[1])], [tuple, tuple, tuple])
        self.assertIs(type(telling(fleet, 6, ())), int)


class BadSeenTest(unittest.TestCase):
    def assert_bad(self, n, seen, index, fleet=Fleet("row", (2,), 0)):
        for call in (left, surely, telling):
            for kind in (list, tuple):
                with self.assertRaises(BadSeen, msg=repr(seen)) as caught:
                    call(fleet, n, kind(seen))
                self.assertEqual(caught.exception.index, index, seen)

    def test_no_answer(self):
        for value in NO_ANSWERS:
            self.assert_bad(8, [value], 0)
            self.assert_bad(8, [(1, "miss"), (7, "hit"), value], 2)
            self.assert_bad(8, [value, (1, "miss")], 0)

    def test_shot_ahead(self):
        self.assert_bad(8, [(3, "miss"), (3, "miss")], 1)
        self.assert_bad(8, [(3, "hit"), (4, "sunk"), (3, "sunk")], 2)
        self.assert_bad(8, [(3, "hit"), (4, "sunk"), (4, "miss"), (3, "hit")], 2)

    def test_no_cell_of_the_sea(self):
        self.assert_bad(0, [(0, "miss")], 0)
        self.assert_bad(1, [(0, "miss"), (1, "miss")], 1)
        self.assert_bad(40, [(39, "miss"), (40, "miss")], 1)

    def test_the_first_of_several(self):
        self.assert_bad(8, [(0, "miss"), (True, "miss"), (0, "miss"), None], 1)
        self.assert_bad(8, [(0, "miss"), (0, "miss"), None], 1)

    def test_whatever_is_left(self):
        """Also where no place is left, or none is there at all."""
        self.assert_bad(8, [(0, "sunk"), (1, "sunk"), 5], 2)
        self.assert_bad(2, [(0, "sunk"), (1, "sunk"), (2, "miss")], 2, Fleet("ring", (4,), 1))

    def test_bad_number_first(self):
        for call in (left, surely, telling):
            for n in NO_NUMBERS:
                for seen in ([], [(0, "miss")], [5], ((1, "hit"), (1, "hit"))):
                    with self.assertRaises(BadNumber, msg=repr(n)):
                        call(Fleet("row", (2,), 0), n, seen)
            call(Fleet("row", (2,), 0), 40, [])
            call(Fleet("row", (2,), 0), 0, [])


if __name__ == "__main__":
    unittest.main()
