"""How long ships escape an order of shots, and how few shots surely sink them."""

from math import gcd

from shipsrow.counting import is_whole, need_number
from shipsrow.errors import BadOrder
from shipsrow.fleets import places
from shipsrow.shots import WORDS, all_sunk, is_on, parted

_MOST_SUNK_IN = 6


def _need_order(n, order):
    """Raise BadOrder unless all things are unlike cells."""
    earlier = {}
    for index, thing in enumerate(order):
        if not is_whole(thing, 0, n - 1) or thing in earlier:
            raise BadOrder(index)
        earlier[thing] = True


def _misses(place, order):
    """Return with how many misses an order begins at a place."""
    for index, cell in enumerate(order):
        if is_on(place, cell):
            return index
    return len(order)


def longest(fleet, n, order):
    """Return the most misses with which an order can begin, and the least place for it; or None."""
    found = places(fleet, n)
    _need_order(n, order)
    if not found:
        return None
    misses = [_misses(place, order) for place in found]
    most = max(misses)
    return (most, found[misses.index(most)])


def mean(fleet, n, order):
    """Return the mean number of shots up to the first one that hits, as a fraction, or None."""
    found = places(fleet, n)
    _need_order(n, order)
    misses = [_misses(place, order) for place in found]
    if not found or max(misses) == len(order):
        return None
    shots = sum(misses) + len(found)
    shared = gcd(shots, len(found))
    return (shots // shared, len(found) // shared)


def _worst_behind(found, shot, cell, known):
    """Return how many more shots it takes at worst once a cell has been shot."""
    groups = parted(found, shot, cell)
    after = {**shot, cell: True}
    return max([_shots_to_sink(groups[word], after, known) for word in WORDS if groups[word]])


def _shots_to_sink(found, shot, known):
    """Return the fewest shots that surely sink all ships, wherever of these places they are.

    Known is a dict of what has been worked out, which is added to.
    """
    if all_sunk(found, shot):
        return 0
    key = (tuple(found), tuple(sorted(shot)))
    if key not in known:
        # A cell that belongs to no ship in any place left tells nothing, and sinks nothing.
        worth = sorted({cell for place in found for ship in place for cell in ship if cell not in shot})
        known[key] = 1 + min([_worst_behind(found, shot, cell, known) for cell in worth])
    return known[key]


def to_sink(fleet, n):
    """Return the fewest shots, chosen by the answers so far, that surely sink all ships, or None."""
    need_number(n, _MOST_SUNK_IN)
    found = places(fleet, n)
    if not found:
        return None
    return _shots_to_sink(found, {}, {})
