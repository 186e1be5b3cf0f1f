"""Plain counts and searches, written from the document's words, to hold answers against.

Nothing here uses the package. A fleet is told by (shape, ships, gap), a plan by
its parts.
"""

from functools import lru_cache
from itertools import combinations, combinations_with_replacement, permutations

SHIPS = [(length,) for length in range(1, 5)] + list(combinations_with_replacement(range(1, 5), 2))

FLEETS = [(shape, ships, gap) for shape in ("row", "ring") for ships in SHIPS for gap in (0, 1)]

PARTS = [(word, k, r) for word in ("every", "every_back") for k in range(1, 7) for r in range(k)]
PARTS += [(word, i) for word in ("cell", "back") for i in range(6)]

# Of every kind that the document calls "any value".
VALUES = [-1, 0, 1, 2, 3, 5, 7, 10 ** 30, "", "row", "ring", "every", "cell", "0", True, False, None,
          (), (1,), (0, 1), ("row",), [], [1], ["row"], {}, {1: 2}, {"row": (1,)}, ((1,),), [[]]]


def next_to(shape, n, one, other):
    return abs(one - other) == 1 or (shape == "ring" and sorted((one, other)) == [0, n - 1])


def is_chain(shape, n, ship):
    """Tell whether some order of the cells has each one next to the one before."""
    return any(all(next_to(shape, n, row[k], row[k + 1]) for k in range(len(row) - 1))
               for row in permutations(ship))


def searched_ships(shape, length, n):
    """Every ascending tuple of cells that is a chain, out of all tuples of cells."""
    return [ship for ship in combinations(range(n), length) if is_chain(shape, n, ship)]


@lru_cache(maxsize=None)
def ship_tuples(shape, length, n):
    """The same by going on from each first cell: for long seas."""
    found = set()
    for first in range(n):
        ship = [first + k for k in range(length)]
        if shape == "ring":
            ship = [cell % n for cell in ship]
        if len(set(ship)) == length and max(ship) < n:
            found.add(tuple(sorted(ship)))
    return sorted(found)


def go_together(fleet, n, first, second):
    shape, ships, gap = fleet
    if set(first) & set(second):
        return False
    if gap == 1 and any(next_to(shape, n, one, other) for one in first for other in second):
        return False
    return ships[0] != ships[1] or first < second


def places_of(fleet, n, ships_of=ship_tuples):
    shape, ships, _ = fleet
    choices = [ships_of(shape, length, n) for length in ships]
    if len(choices) == 1:
        return sorted((ship,) for ship in choices[0])
    return sorted((first, second) for first in choices[0] for second in choices[1]
                  if go_together(fleet, n, first, second))


def in_part(part, cell, n):
    behind = n - 1 - cell
    if part[0] == "every":
        return cell % part[1] == part[2]
    if part[0] == "every_back":
        return behind % part[1] == part[2]
    if part[0] == "cell":
        return cell == part[1]
    return behind == part[1]


@lru_cache(maxsize=None)
def plan_cells(parts, n):
    return [cell for cell in range(n) if any(in_part(part, cell, n) for part in parts)]


def plan_counts(parts, most):
    return [len(plan_cells(parts, n)) for n in range(most)]


def least_escape(fleet, n, shot):
    """The least place without a cell that was shot, or None."""
    shot = set(shot)
    shape, ships, _ = fleet
    choices = [[ship for ship in ship_tuples(shape, length, n) if not shot & set(ship)] for length in ships]
    for first in choices[0]:
        if len(ships) == 1:
            return (first,)
        for second in choices[1]:
            if go_together(fleet, n, first, second):
                return (first, second)
    return None


def searched_fewest(fleet, n):
    """The fewest cells that have one in each place, by trying all sets of cells."""
    found = places_of(fleet, n)
    for many in range(n + 1):
        for shot in combinations(range(n), many):
            if all(any(cell in shot for ship in place for cell in ship) for place in found):
                return many
    raise AssertionError("all cells together catch everything")


# The fewest cells in long seas: one cell after the other is shot or left free,
# and all ways in which the ships can lie on the free cells so far are kept
# together, each as (first, head, now, run, done): the ship on the first cell, how
# many cells it has there if it must go on at the end of the ring, the ship on the
# last cell so far, how many cells it has up to there, and which ships are whole.

def close_run(fleet, way):
    """The way after the run on the last cell so far has ended, or None."""
    shape, ships, _ = fleet
    first, head, now, run, done = way
    if now is None:
        return way
    if now == first and head:
        return None
    if run == ships[now]:
        return (first, head, None, 0, done | {now})
    if shape == "ring" and now == first and now not in done:
        return (first, run, None, 0, done)
    return None


def lay(fleet, way, ship):
    """The way with a ship, or None, on the next cell; None if that can't be."""
    _, ships, gap = fleet
    if way == "start":
        return (ship, 0, ship, 0 if ship is None else 1, frozenset())
    first, head, now, run, done = way
    if ship is not None and ship == now:
        if run + (head if ship == first else 0) == ships[ship]:
            return None
        return (first, head, now, run + 1, done)
    if ship is not None and now is not None and gap == 1:
        return None
    closed = close_run(fleet, way)
    if closed is None or ship in closed[4]:
        return None
    return closed if ship is None else (closed[0], closed[1], ship, 1, closed[4])


def is_whole_way(fleet, way):
    """Tell whether all ships lie on free cells if the sea ends here."""
    shape, ships, gap = fleet
    if way == "start":
        return False
    first, head, now, run, done = way
    if now is not None:
        if run + (head if now == first else 0) != ships[now]:
            return False
        if shape == "ring" and gap == 1 and first not in (None, now):
            return False
        done = done | {now}
    return len(done) == len(ships)


def next_ways(fleet, ways, free):
    labels = [None] + (list(range(len(fleet[1]))) if free else [])
    laid = {lay(fleet, way, ship) for way in ways for ship in labels}
    return frozenset(laid - {None})


@lru_cache(maxsize=None)
def fewest_by_ways(fleet, most):
    """The fewest cells that catch the fleet, for 0 to most - 1 cells."""
    shots, told, known = {frozenset(["start"]): 0}, [], {}
    for _ in range(most):
        told.append(min(many for ways, many in shots.items()
                        if not any(is_whole_way(fleet, way) for way in ways)))
        after = {}
        for ways, many in shots.items():
            for free in (True, False):
                if (ways, free) not in known:
                    known[ways, free] = next_ways(fleet, ways, free)
                reached = known[ways, free]
                after[reached] = min(many + (not free), after.get(reached, many + 1))
        shots = after
    return told
