"""Fleets and their places (points 1, 2)."""

import unittest

import plain
from shipsrow.errors import BadGap, BadNumber, BadShape, BadShips
from shipsrow.fleets import Fleet, places

NO_NUMBERS = [value for value in plain.VALUES if type(value) is not int] + [-1, 41, 10 ** 30]


class FleetTest(unittest.TestCase):
    def test_properties(self):
        for shape, ships, gap in plain.FLEETS:
            fleet = Fleet(shape, ships, gap)
            self.assertEqual((fleet.shape, fleet.ships, fleet.gap), (shape, ships, gap))
            self.assertIs(type(fleet.ships), tuple)

    def test_equal_if_the_properties_are(self):
        made = [Fleet(*told) for told in plain.FLEETS]
        for at, fleet in enumerate(made):
            self.assertEqual(fleet, Fleet(*plain.FLEETS[at]))
            self.assertEqual([other for other in made if other == fleet], [fleet])
            self.assertFalse(fleet != Fleet(*plain.FLEETS[at]))

    def test_not_equal_to_other_things(self):
        fleet = Fleet("row", (2,), 0)
        for value in plain.VALUES + [("row", (2,), 0)]:
            self.assertFalse(fleet == value)

    def test_bad_shape(self):
        for value in plain.VALUES + ["Row", "row ", "rings", ("row", "ring")]:
            if value not in ("row", "ring"):
                with self.assertRaises(BadShape, msg=repr(value)):
                    Fleet(value, (2,), 0)

    def test_bad_ships(self):
        wrong = [(), (0,), (5,), (-1,), (1, 5), (0, 1), (2, 1), (4, 3), (1, 1, 1), (1, 2, 3), [1], [1, 2], {1: 2},
                 1, (True,), (False,), (1, True), (True, 1), (True, True), ("1",), (None,), ((1,),), (1, None),
                 ([1], 2), (1, {}), "12", None, True, (10 ** 30,), (-10 ** 30, 1)]
        for ships in wrong:
            with self.assertRaises(BadShips, msg=repr(ships)):
                Fleet("row", ships, 0)
        for ships in plain.VALUES:
            if ships != (1,):
                with self.assertRaises(BadShips, msg=repr(ships)):
                    Fleet("ring", ships, 1)

    def test_bad_gap(self):
        for gap in plain.VALUES:
            if type(gap) is int and gap in (0, 1):
                continue
            with self.assertRaises(BadGap, msg=repr(gap)):
                Fleet("row", (1, 2), gap)

    def test_several_errors_at_once(self):
        for shape in (None, [], "square", True):
            for ships in ((2, 1), [1], (1,)):
                for gap in (2, True, 0):
                    self.assertRaises(BadShape, Fleet, shape, ships, gap)
        for ships in ((2, 1), [1], (True,), None):
            for gap in (2, False, None):
                self.assertRaises(BadShips, Fleet, "ring", ships, gap)


class PlacesTest(unittest.TestCase):
    def test_examples(self):
        self.assertEqual(places(Fleet("row", (1, 2), 1), 4), [((0,), (2, 3)), ((3,), (0, 1))])
        self.assertEqual(places(Fleet("ring", (2,), 0), 3), [((0, 1),), ((0, 2),), ((1, 2),)])

    def test_all_places_of_short_seas(self):
        """Against a search through all tuples of cells."""
        for told in plain.FLEETS:
            fleet = Fleet(*told)
            for n in range(9):
                wanted = plain.places_of(told, n, plain.searched_ships)
                self.assertEqual(places(fleet, n), wanted, (told, n))

    def test_all_places_of_longer_seas(self):
        for told in plain.FLEETS:
            fleet = Fleet(*told)
            for n in (9, 10, 11, 12, 17, 39, 40):
                self.assertEqual(places(fleet, n), plain.places_of(told, n), (told, n))

    def test_no_cell_and_one_cell(self):
        for told in plain.FLEETS:
            self.assertEqual(places(Fleet(*told), 0), [])
            self.assertEqual(places(Fleet(*told), 1), [((0,),)] if told[1] == (1,) else [])

    def test_a_ring_as_long_as_a_ship_or_shorter(self):
        for length in range(1, 5):
            for gap in (0, 1):
                fleet = Fleet("ring", (length,), gap)
                self.assertEqual(places(fleet, length), [(tuple(range(length)),)])
                self.assertEqual(places(fleet, length - 1), [])
                self.assertEqual(len(places(fleet, length + 1)), length + 1)
        self.assertEqual(places(Fleet("ring", (3, 3), 0), 3), [])

    def test_ships_past_the_last_cell(self):
        self.assertEqual(places(Fleet("ring", (3,), 0), 5),
                         [((0, 1, 2),), ((0, 1, 4),), ((0, 3, 4),), ((1, 2, 3),), ((2, 3, 4),)])

    def test_two_ships_of_one_length(self):
        self.assertEqual(places(Fleet("row", (1, 1), 0), 3), [((0,), (1,)), ((0,), (2,)), ((1,), (2,))])
        self.assertEqual(places(Fleet("row", (1, 1), 1), 3), [((0,), (2,))])
        self.assertEqual(places(Fleet("ring", (1, 1), 1), 3), [])
        self.assertEqual(places(Fleet("ring", (2, 2), 0), 4), [((0, 1), (2, 3)), ((0, 3), (1, 2))])

    def test_bad_number(self):
        for told in (("row", (2,), 0), ("ring", (1, 4), 1)):
            for n in NO_NUMBERS:
                with self.assertRaises(BadNumber, msg=repr(n)):
                    places(Fleet(*told), n)

    def test_repeated_calls_give_new_equal_lists(self):
        fleet = Fleet("ring", (1, 2), 1)
        first = places(fleet, 7)
        kept = list(first)
        first.clear()
        self.assertEqual(places(fleet, 7), kept)
        self.assertEqual((fleet.shape, fleet.ships, fleet.gap), ("ring", (1, 2), 1))

    def test_kinds_of_values(self):
        for place in places(Fleet("ring", (2, 3), 0), 6):
            self.assertIs(type(place), tuple)
            for ship in place:
                self.assertIs(type(ship), tuple)
                self.assertTrue(all(type(cell) is int for cell in ship))


if __name__ == "__main__":
    unittest.main()
