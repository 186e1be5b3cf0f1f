"""Fleets of one or two ships, and their places in a sea."""

from shipsrow.counting import is_whole, need_number
from shipsrow.errors import BadGap, BadShape, BadShips

_MOST_PLACED = 40


def _are_ships(ships):
    """Tell whether a value is an ascending tuple of one or two lengths."""
    if not isinstance(ships, tuple) or len(ships) not in (1, 2):
        return False
    if not all([is_whole(length, 1, 4) for length in ships]):
        return False
    return ships[0] <= ships[-1]


class Fleet:
    """One or two ships in a row or a ring, which may touch if the gap is 0."""

    def __init__(self, shape, ships, gap):
        if shape not in ("row", "ring"):
            raise BadShape("a shape is row or ring")
        if not _are_ships(ships):
            raise BadShips("ships are an ascending tuple of one or two lengths from 1 to 4")
        if not is_whole(gap, 0, 1):
            raise BadGap("a gap is 0 or 1")
        self._shape = shape
        self._ships = ships
        self._gap = gap

    @property
    def shape(self):
        """The shape of the sea: row or ring."""
        return self._shape

    @property
    def ships(self):
        """The lengths of the ships, ascending."""
        return self._ships

    @property
    def gap(self):
        """The number of cells that must lie between the ships: 0 or 1."""
        return self._gap

    def __eq__(self, other):
        return (isinstance(other, Fleet) and self._shape == other._shape
                and self._ships == other._ships and self._gap == other._gap)


def spans(shape, length, n):
    """Return the ascending list of what cells one ship can take in n cells."""
    if length > n:
        return []
    # A ship as long as the ring takes all cells, wherever it begins: once only.
    if shape == "row" or length == n:
        return [tuple(range(at, at + length)) for at in range(n - length + 1)]
    return sorted([tuple(sorted([(at + k) % n for k in range(length)])) for at in range(n)])


def _barred(fleet, n, span):
    """Return a dict of the cells that a ship at this span bars for the other one."""
    barred = {cell: True for cell in span}
    if fleet.gap == 0:
        return barred
    for cell in span:
        for near in (cell - 1, cell + 1):
            # Beyond the ends of a row this is no cell, and bars nothing.
            at = near % n if fleet.shape == "ring" else near
            barred[at] = True
    return barred


def _beside(fleet, n, first, choice):
    """Return the spans of a choice at which the second ship can lie with the first."""
    barred = _barred(fleet, n, first)
    # Ships of one length are told apart by their spans alone: the lesser first.
    twins = fleet.ships[0] == fleet.ships[1]
    return [span for span in choice
            if not (twins and span < first) and not any([cell in barred for cell in span])]


def least_place(fleet, n, choices):
    """Return the least place with a span of each ship's ascending choice, or None."""
    for first in choices[0]:
        if len(choices) == 1:
            return (first,)
        seconds = _beside(fleet, n, first, choices[1])
        if seconds:
            return (first, seconds[0])
    return None


def places(fleet, n):
    """Return the ascending list of all places of the fleet in n cells."""
    need_number(n, _MOST_PLACED)
    choices = [spans(fleet.shape, length, n) for length in fleet.ships]
    if len(choices) == 1:
        return [(span,) for span in choices[0]]
    return [(first, second) for first in choices[0]
            for second in _beside(fleet, n, first, choices[1])]
