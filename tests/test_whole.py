"""What the document promises over the whole program (points 1, 2, 11, and the interface)."""

import copy
import importlib
import inspect
import random
import unittest

import plain
import plainshots
from shipsrow import answers, catching, errors, fleets, games, orders, plans, texts
from shipsrow.fleets import Fleet
from shipsrow.plans import Plan

FUNCTIONS = {
    "fleets": {"places": "fleet n"},
    "plans": {"cells": "plan n", "count": "plan", "alike": "one other", "more": "one other"},
    "catching": {"catches": "plan fleet", "fewest": "fleet", "fewest_cells": "fleet n",
                 "first_escape": "plan fleet", "spare": "plan fleet"},
    "answers": {"left": "fleet n seen", "surely": "fleet n seen", "telling": "fleet n seen"},
    "orders": {"longest": "fleet n order", "mean": "fleet n order", "to_sink": "fleet n"},
    "texts": {"write": "fleet plan", "read": "text"},
}

CLASSES = {
    "fleets": {"Fleet": ("shape ships gap", "shape ships gap", {"__eq__": "other"})},
    "plans": {"Plan": ("parts", "parts", {"__eq__": "other", "__len__": ""})},
    "games": {"Game": ("fleet n", "seen left over fleet size",
                       {"shoot": "cell", "undo": "", "copy": "", "__len__": ""})},
}

ERRORS = {"BadShape": "", "BadShips": "", "BadGap": "", "BadNumber": "", "BadPart": "index", "BadSeen": "index",
          "BadOrder": "index", "NoPlace": "", "BadCell": "", "Over": "", "BadLine": "line word"}

ROW, RING = Fleet("row", (1, 2), 1), Fleet("ring", (2,), 0)
PLAN = Plan((("every", 3, 2), ("back", 0)))

# Each call to which n is passed, and the most that it takes.
CALLS = [(40, lambda n: fleets.places(ROW, n)), (10000, lambda n: plans.cells(PLAN, n)),
         (200, lambda n: catching.fewest_cells(RING, n)),
         (40, lambda n: answers.left(RING, n, [])), (40, lambda n: answers.surely(RING, n, ())),
         (40, lambda n: answers.telling(ROW, n, [])), (40, lambda n: orders.longest(ROW, n, [])),
         (40, lambda n: orders.mean(RING, n, ())), (6, lambda n: orders.to_sink(ROW, n)),
         (40, lambda n: games.Game(RING, n))]


def names_of(function):
    return " ".join(name for name in inspect.signature(function).parameters if name != "self")


class InterfaceTest(unittest.TestCase):
    def test_functions(self):
        for module, told in FUNCTIONS.items():
            found = importlib.import_module("shipsrow." + module)
            for name, names in told.items():
                function = getattr(found, name)
                self.assertEqual(names_of(function), names, name)
                self.assertEqual(function.__module__, "shipsrow." + module)

    def test_classes(self):
        for module, told in CLASSES.items():
            found = importlib.import_module("shipsrow." + module)
            for name, (names, properties, methods) in told.items():
                kind = getattr(found, name)
                self.assertEqual(kind.__module__, "shipsrow." + module)
                self.assertEqual(names_of(kind), names)
                for each in properties.split():
                    self.assertIsInstance(vars(kind)[each], property)
                for each, taken in methods.items():
                    self.assertEqual(names_of(vars(kind)[each]), taken)

    def test_errors(self):
        self.assertEqual(errors.SeaError.__bases__, (ValueError,))
        for name, fields in ERRORS.items():
            kind = getattr(errors, name)
            self.assertEqual(kind.__bases__, (errors.SeaError,))
            self.assertEqual(kind.__module__, "shipsrow.errors")
            if fields:
                self.assertEqual(names_of(kind.__init__), fields)


class NumberTest(unittest.TestCase):
    """Point 2, wherever n is passed."""

    def test_wrong_numbers(self):
        for most, call in CALLS:
            wrong = [value for value in plain.VALUES if type(value) is not int]
            for n in wrong + [-1, -40, most + 1, most + 100, 10 ** 30, -10 ** 30]:
                with self.assertRaises(errors.BadNumber, msg=(most, n)):
                    call(n)

    def test_numbers_at_the_bounds(self):
        for most, call in CALLS[:-1]:
            call(0)
            call(most)
        self.assertRaises(errors.NoPlace, CALLS[-1][1], 0)
        self.assertEqual(games.Game(RING, 40).left, 40)

    def test_bad_number_ahead_of_what_is_named_later(self):
        for n in (41, True, None):
            self.assertRaises(errors.BadNumber, answers.left, RING, n, [None])
            self.assertRaises(errors.BadNumber, answers.surely, RING, n, [None])
            self.assertRaises(errors.BadNumber, answers.telling, RING, n, [None])
            self.assertRaises(errors.BadNumber, orders.longest, RING, n, [None])
            self.assertRaises(errors.BadNumber, orders.mean, RING, n, [None])
        for n in (-1, False):
            self.assertRaises(errors.BadNumber, games.Game, Fleet("row", (4,), 0), n)


class SameAgainTest(unittest.TestCase):
    """Point 1: arguments stay, returned lists are new, repeated calls give equal results."""

    def calls(self):
        seen, order = [(0, "miss"), (3, "hit")], [4, 0, 5, 2]
        text = texts.write(ROW, PLAN)
        listed = [(fleets.places, (ROW, 6)), (plans.cells, (PLAN, 9)), (answers.left, (RING, 6, seen))]
        listed += [(plans.count, (PLAN,)), (plans.alike, (PLAN, Plan(()))), (plans.more, (PLAN, Plan(()))),
                   (catching.catches, (PLAN, ROW)), (catching.first_escape, (PLAN, RING)), (catching.fewest, (ROW,)),
                   (catching.fewest_cells, (ROW, 20)), (catching.spare, (PLAN, RING)),
                   (answers.surely, (RING, 6, seen)), (answers.telling, (RING, 6, seen)),
                   (orders.longest, (ROW, 6, order)), (orders.mean, (ROW, 6, order)), (orders.to_sink, (ROW, 6)),
                   (texts.write, (ROW, PLAN)), (texts.read, (text,))]
        return listed

    def test_twice(self):
        for function, arguments in self.calls():
            kept = copy.deepcopy(arguments)
            first, second = function(*arguments), function(*arguments)
            self.assertEqual(first, second, function)
            self.assertEqual(arguments, kept, function)
            if isinstance(first, list):
                self.assertIsNot(first, second)
                first.append("changed")
                self.assertEqual(function(*arguments), second, function)

    def test_after_other_calls(self):
        """What was called in between makes no difference."""
        first = [function(*arguments) for function, arguments in self.calls()]
        again = [function(*arguments) for function, arguments in reversed(self.calls())]
        self.assertEqual(first, again[::-1])

    def test_after_errors(self):
        first = [function(*arguments) for function, arguments in self.calls()]
        seen, order = [(0, "miss"), (0, "miss")], [1, 1]
        for error, function, arguments in ((errors.BadSeen, answers.left, (RING, 6, seen)),
                                           (errors.BadSeen, answers.telling, (RING, 6, seen)),
                                           (errors.BadOrder, orders.mean, (ROW, 6, order)),
                                           (errors.BadLine, texts.read, ("fleet row 2 gap 0\n",)),
                                           (errors.BadNumber, orders.to_sink, (ROW, 7))):
            kept = copy.deepcopy(arguments)
            self.assertRaises(error, function, *arguments)
            self.assertEqual(arguments, kept)
        self.assertEqual([function(*arguments) for function, arguments in self.calls()], first)


class BooleanTest(unittest.TestCase):
    """Point 1: integers are never booleans."""

    def test_wherever_integers_are_asked(self):
        for value in (True, False):
            self.assertRaises(errors.BadShips, Fleet, "row", (value,), 0)
            self.assertRaises(errors.BadGap, Fleet, "row", (1,), value)
            self.assertRaises(errors.BadPart, Plan, (("cell", value),))
            self.assertRaises(errors.BadPart, Plan, (("every", 2, value),))
            self.assertRaises(errors.BadSeen, answers.left, RING, 6, [(value, "miss")])
            self.assertRaises(errors.BadOrder, orders.longest, RING, 6, [value])
            self.assertRaises(errors.BadCell, games.Game(RING, 6).shoot, value)
            for _, call in CALLS:
                self.assertRaises(errors.BadNumber, call, value)

    def test_what_is_returned(self):
        for value in (orders.to_sink(Fleet("row", (1,), 0), 1), len(games.Game(RING, 6)),
                      answers.telling(RING, 6, []), games.Game(RING, 2).left, games.Game(RING, 2).size):
            self.assertIs(type(value), int)
        for value in (games.Game(RING, 6).over, games.Game(RING, 6).undo(), plans.alike(PLAN, PLAN)):
            self.assertIs(type(value), bool)


class HoldsTest(unittest.TestCase):
    """Point 11, over drawn fleets, plans, answers and games."""

    def caught(self, parts, fleet):
        start, period, remainders, early = catching.catches(Plan(parts), fleet)
        return [n in early if n < start else n % period in remainders for n in range(150)]

    def test_more_parts_catch_what_fewer_do(self):
        source, differ = random.Random(61), 0
        for _ in range(40):
            fleet, parts = Fleet(*source.choice(plain.FLEETS)), tuple(source.sample(plain.PARTS[:48:5], 4))
            rows = [self.caught(parts[:many], fleet) for many in range(5)]
            for fewer, more in zip(rows, rows[1:]):
                self.assertTrue(all(late or not early for early, late in zip(fewer, more)), (parts, fleet.ships))
                differ += fewer != more
        self.assertGreater(differ, 10)

    def test_fewer_answers_leave_what_more_leave(self):
        for source, told, n in plainshots.some_seas(62, 60, 25):
            seen = plainshots.some_answers(source, told, n, 12)
            for place in answers.left(Fleet(*told), n, seen):
                for many in range(len(seen)):
                    self.assertIn(place, answers.left(Fleet(*told), n, seen[:many]))

    def test_games_end(self):
        for source, told, n in plainshots.some_seas(63, 60, 25):
            game = games.Game(Fleet(*told), n)
            for cell in source.sample(range(n), n):
                if not game.over:
                    game.shoot(cell)
            self.assertTrue(game.over)
            self.assertLessEqual(len(game), n)

    def test_games_of_telling_shots_end(self):
        """There is always a cell to tell while a game is not over."""
        for told in plain.FLEETS:
            for n in (1, 3, 6, 11):
                if plain.places_of(told, n):
                    game = games.Game(Fleet(*told), n)
                    while not game.over:
                        game.shoot(answers.telling(game.fleet, n, game.seen))
                    self.assertLessEqual(len(game), n)

    def test_single_ships(self):
        for length in range(1, 5):
            for n in range(length, 60):
                self.assertEqual(len(catching.fewest_cells(Fleet("row", (length,), 0), n)), n // length)
                self.assertEqual(len(catching.fewest_cells(Fleet("ring", (length,), 0), n)), -(-n // length))


if __name__ == "__main__":
    unittest.main()
