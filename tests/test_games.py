"""The game against a hider who has not hidden yet (points 1, 2, 9, 11)."""

import unittest
from itertools import permutations

import plain
import plainshots
from shipsrow.answers import left
from shipsrow.errors import BadCell, BadNumber, NoPlace, Over
from shipsrow.fleets import Fleet
from shipsrow.games import Game

NO_NUMBERS = [value for value in plain.VALUES if type(value) is not int] + [-1, 41, 10 ** 30]

# Things that are no cell of a sea of 6 cells.
NO_CELLS = [value for value in plain.VALUES if type(value) is not int] + [-1, 6, 7, 10 ** 30, -10 ** 30, (1,), [2]]


def shown(game):
    return (game.seen, game.left, game.over, len(game))


class GameTest(unittest.TestCase):
    def assert_shows(self, game, opponent, fleet, n):
        self.assertEqual(shown(game), opponent.shows(), (fleet, n))
        self.assertEqual((game.fleet, game.size), (Fleet(*fleet), n))

    def play(self, fleet, n, order):
        """Hold a game against a plain hider, up to its end; return it."""
        game, opponent = Game(Fleet(*fleet), n), plainshots.Opponent(fleet, n)
        self.assert_shows(game, opponent, fleet, n)
        for cell in order:
            if game.over:
                with self.assertRaises(Over):
                    game.shoot(cell)
            else:
                self.assertEqual(game.shoot(cell), opponent.answer(cell), (fleet, n, order, cell))
            self.assert_shows(game, opponent, fleet, n)
        return game

    def test_example(self):
        game = Game(Fleet("row", (2,), 0), 4)
        told = [game.shoot(1), game.left, game.shoot(0), game.over, game.shoot(2), game.over, len(game)]
        self.assertEqual(told, ["hit", 2, "miss", False, "sunk", True, 3])

    def test_all_games_in_short_seas(self):
        """With point 11: they are over with so many shots at most as there are cells."""
        for fleet in plain.FLEETS:
            for n in range(1, 6):
                if plain.places_of(fleet, n):
                    for order in list(permutations(range(n)))[::1 if n < 5 else 5]:
                        self.assertTrue(self.play(fleet, n, order).over)

    def test_drawn_games(self):
        for source, fleet, n in plainshots.some_seas(41, 90, 18):
            self.assertTrue(self.play(fleet, n, source.sample(range(n), n)).over)

    def test_long_games(self):
        for source, fleet, n in plainshots.some_seas(42, 12):
            self.assertTrue(self.play(fleet, n, source.sample(range(n), n)).over)
        for fleet in plain.FLEETS[5::16]:
            self.assertTrue(self.play(fleet, 40, list(range(40))).over)

    def test_what_is_left_fits_what_is_seen(self):
        for source, fleet, n in plainshots.some_seas(43, 60, 20):
            game = Game(Fleet(*fleet), n)
            for cell in source.sample(range(n), n):
                if not game.over:
                    game.shoot(cell)
                self.assertEqual(game.left, len(left(game.fleet, game.size, game.seen)))
                self.assertGreater(game.left, 0)

    def test_miss_ahead_of_hit(self):
        game = Game(Fleet("row", (2,), 0), 3)
        self.assertEqual([game.shoot(0), game.left], ["miss", 1])

    def test_miss_ahead_of_sunk(self):
        game = Game(Fleet("row", (1,), 0), 2)
        self.assertEqual([game.shoot(1), game.left, game.shoot(0), game.over], ["miss", 1, "sunk", True])

    def test_hit_ahead_of_sunk(self):
        game = Game(Fleet("row", (1, 2), 0), 3)
        self.assertEqual([game.shoot(0), game.left], ["hit", 1])

    def test_the_most_places(self):
        self.assertEqual(Game(Fleet("row", (3,), 0), 4).shoot(1), "hit")
        self.assertEqual(Game(Fleet("ring", (1, 1), 0), 3).shoot(1), "sunk")
        self.assertEqual(Game(Fleet("row", (1,), 0), 1).shoot(0), "sunk")

    def test_over_only_if_all_is_sunk_in_all_places(self):
        """One place left is not enough, nor one ship sunk."""
        game = Game(Fleet("row", (2,), 0), 2)
        self.assertEqual((game.left, game.over), (1, False))
        self.assertEqual([game.shoot(0), game.over, game.shoot(1), game.over], ["hit", False, "sunk", True])
        game = Game(Fleet("ring", (1, 1), 0), 3)
        self.assertEqual([game.shoot(1), game.over, game.shoot(2), game.over], ["sunk", False, "miss", False])
        self.assertEqual([game.shoot(0), game.over], ["sunk", True])

    def test_a_ring_as_long_as_a_ship(self):
        game = Game(Fleet("ring", (4,), 1), 4)
        self.assertEqual([game.shoot(cell) for cell in (2, 0, 3, 1)], ["hit", "hit", "hit", "sunk"])
        self.assertTrue(game.over)

    def test_new_game(self):
        fleet = Fleet("row", (1, 2), 1)
        game = Game(fleet, 4)
        self.assertEqual(shown(game), ((), 2, False, 0))
        self.assertEqual((game.fleet, game.size), (fleet, 4))
        for name in ("seen", "left", "over", "fleet", "size"):
            self.assertTrue(hasattr(game, name))
            with self.assertRaises(AttributeError, msg=name):
                setattr(game, name, None)

    def test_kinds_of_values(self):
        game = Game(Fleet("row", (1, 2), 1), 6)
        self.assertIs(type(game.shoot(2)), str)
        told = [type(thing) for thing in (game.seen, game.left, game.over, game.fleet, game.size, len(game))]
        self.assertEqual(told, [tuple, int, bool, Fleet, int, int])
        self.assertEqual([type(game.seen[0]), type(game.seen[0][0]), type(game.seen[0][1])], [tuple, int, str])
        self.assertIs(type(game.copy()), Game)
        self.assertIs(game.undo(), True)
        self.assertIs(game.undo(), False)

    def test_repeated_games(self):
        for _, fleet, n in plainshots.some_seas(44, 10, 15):
            self.assertEqual(shown(self.play(fleet, n, range(n))), shown(self.play(fleet, n, range(n))))


class UndoTest(unittest.TestCase):
    def test_without_a_shot(self):
        game = Game(Fleet("row", (2,), 0), 4)
        for _ in range(2):
            self.assertIs(game.undo(), False)
            self.assertEqual(shown(game), ((), 3, False, 0))
        self.assertEqual(game.shoot(1), "hit")

    def test_step_by_step(self):
        for source, fleet, n in plainshots.some_seas(45, 40, 16):
            game, stages = Game(Fleet(*fleet), n), []
            for cell in source.sample(range(n), n):
                if not game.over:
                    stages.append(shown(game))
                    game.shoot(cell)
            while stages:
                self.assertIs(game.undo(), True)
                self.assertEqual(shown(game), stages.pop(), (fleet, n))
            self.assertIs(game.undo(), False)

    def test_goes_on_otherwise(self):
        """What was taken back tells nothing, and can be shot again."""
        for source, fleet, n in plainshots.some_seas(46, 60, 14):
            game, opponent = Game(Fleet(*fleet), n), plainshots.Opponent(fleet, n)
            cells = source.sample(range(n), n)
            for at, cell in enumerate(cells):
                if game.over:
                    break
                game.shoot(cells[source.randrange(at, n)])
                self.assertIs(game.undo(), True)
                self.assertEqual(game.shoot(cell), opponent.answer(cell))
                self.assertEqual(shown(game), opponent.shows())

    def test_from_the_end(self):
        game = Game(Fleet("row", (1,), 0), 1)
        game.shoot(0)
        self.assertIs(game.over, True)
        self.assertIs(game.undo(), True)
        self.assertEqual(shown(game), ((), 1, False, 0))
        self.assertEqual(game.shoot(0), "sunk")


class CopyTest(unittest.TestCase):
    def test_stands_as_the_game(self):
        for source, fleet, n in plainshots.some_seas(47, 30, 14):
            game = Game(Fleet(*fleet), n)
            for cell in source.sample(range(n), source.randint(0, n)):
                if not game.over:
                    game.shoot(cell)
            twin = game.copy()
            self.assertIsNot(twin, game)
            self.assertEqual(shown(twin), shown(game))
            self.assertEqual((twin.fleet, twin.size), (game.fleet, game.size))

    def test_each_goes_its_own_way(self):
        for source, fleet, n in plainshots.some_seas(48, 40, 12):
            game, ways = Game(Fleet(*fleet), n), [plainshots.Opponent(fleet, n) for _ in range(3)]
            start = source.sample(range(n), source.randint(0, n - 1))
            for cell in start:
                if not game.over:
                    game.shoot(cell)
                    for way in ways:
                        way.answer(cell)
            games, rest = [game, game.copy(), game.copy()], [cell for cell in range(n) if cell not in start]
            for at in (1, 0, 2):
                for cell in source.sample(rest, len(rest)):
                    if not games[at].over:
                        self.assertEqual(games[at].shoot(cell), ways[at].answer(cell))
                    self.assertEqual([shown(each) for each in games], [way.shows() for way in ways])

    def test_undo_in_one_alone(self):
        game = Game(Fleet("row", (2,), 0), 6)
        game.shoot(1)
        game.shoot(4)
        twin = game.copy()
        before = shown(game)
        self.assertEqual([twin.undo(), twin.undo(), twin.undo()], [True, True, False])
        self.assertEqual(shown(twin), ((), 5, False, 0))
        self.assertEqual(shown(game), before)
        last = game.copy()
        self.assertEqual([game.undo(), game.undo(), game.undo()], [True, True, False])
        self.assertEqual((shown(last), shown(twin)), (before, shown(game)))
        self.assertEqual([last.undo(), last.undo(), last.undo()], [True, True, False])

    def test_of_a_game_that_is_over(self):
        game = Game(Fleet("ring", (1,), 0), 1)
        game.shoot(0)
        twin = game.copy()
        self.assertRaises(BadCell, twin.shoot, 0)
        self.assertEqual(shown(twin), (((0, "sunk"),), 1, True, 1))
        twin.undo()
        self.assertEqual((twin.over, game.over), (False, True))


class WrongTest(unittest.TestCase):
    def test_bad_number(self):
        for fleet in (("row", (2,), 0), ("ring", (4, 4), 1)):
            for n in NO_NUMBERS:
                with self.assertRaises(BadNumber, msg=repr(n)):
                    Game(Fleet(*fleet), n)

    def test_no_place(self):
        for fleet in plain.FLEETS:
            for n in range(12):
                if plain.places_of(fleet, n):
                    self.assertEqual(Game(Fleet(*fleet), n).left, len(plain.places_of(fleet, n)))
                else:
                    with self.assertRaises(NoPlace, msg=(fleet, n)):
                        Game(Fleet(*fleet), n)
        self.assertEqual(Game(Fleet("row", (1,), 0), 40).left, 40)

    def assert_refused(self, game, cell, error):
        before = shown(game)
        with self.assertRaises(error, msg=repr(cell)):
            game.shoot(cell)
        self.assertEqual(shown(game), before)

    def test_bad_cell(self):
        for fleet in (("row", (2,), 0), ("ring", (1, 2), 1)):
            game = Game(Fleet(*fleet), 6)
            for value in NO_CELLS:
                self.assert_refused(game, value, BadCell)
            word = game.shoot(1)
            for value in NO_CELLS + [1]:
                self.assert_refused(game, value, BadCell)
            self.assertEqual(game.seen, ((1, word),))
            self.assertIs(game.undo(), True)
            self.assertEqual(game.shoot(1), word)

    def test_over(self):
        """A cell that cannot be shot anyway is told first."""
        game = Game(Fleet("row", (2,), 0), 6)
        self.assertEqual([game.shoot(cell) for cell in (1, 3, 4, 2)], ["miss", "hit", "miss", "sunk"])
        self.assertIs(game.over, True)
        fresh = [0, 5]
        for cell in fresh:
            self.assert_refused(game, cell, Over)
        for value in NO_CELLS + [cell for cell, _ in game.seen]:
            self.assert_refused(game, value, BadCell)
        self.assertIs(game.undo(), True)
        self.assertIs(game.over, False)
        self.assertEqual(game.shoot(5), "miss")

    def test_arguments_stay(self):
        fleet = Fleet("ring", (1, 3), 1)
        game = Game(fleet, 8)
        game.shoot(3)
        self.assertEqual((fleet.shape, fleet.ships, fleet.gap), ("ring", (1, 3), 1))
        seen = game.seen
        game.shoot(4)
        self.assertEqual(len(seen), 1)


if __name__ == "__main__":
    unittest.main()
