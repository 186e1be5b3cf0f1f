"""What a plan surely hits, and with how few cells that can be done, for all n."""

from shipsrow.counting import first_above, form_of, need_number
from shipsrow.fleets import least_place, spans
from shipsrow.plans import cells_in, count, period_of

_MOST_SHOTS_IN = 200

# From here on the fewest cells gain one for each longest ship. Of unlike ships,
# leaving the longer one a long run (_row_shots) saves cells the farthest with 3, 4
# and the gap 1: (n - 5) // 3 is below n // 4 up to n = 16. Ships of one length
# need (n - length - gap) // length cells, which gains so from n = 5 on at least.
# A ring needs one more than a row with one cell less, once it has a place: from
# n = 10 on at least.
_FEWEST_FROM = 30


def _free_spans(shape, length, n, shot):
    """Return the ascending list of what cells one ship can take without a shot one."""
    return [span for span in spans(shape, length, n) if not any([cell in shot for cell in span])]


def _escape(plan, fleet, n):
    """Return the least place without a cell of the plan in n cells, or None."""
    shot = {cell: True for cell in cells_in(plan, n)}
    choices = [_free_spans(fleet.shape, length, n, shot) for length in fleet.ships]
    return least_place(fleet, n, choices)


def _caught_from(plan):
    """Return a number n from which on n cells are caught just if a period more are.

    So long a sea has room beside the ships, and between the ends, where a
    period of cells can be put in or taken out, with one left for the gap.
    """
    return 2 * period_of(plan) + 23


def _least_turn(row):
    """Return the least number of steps by which a ring of things can turn into itself."""
    for turn in range(1, len(row)):
        if row[turn:] + row[:turn] == row:
            return turn
    return len(row)


def catches(plan, fleet):
    """Return for which n a plan catches a fleet: (start, period, remainders, early)."""
    settled = _caught_from(plan)
    caught = [_escape(plan, fleet, n) is None for n in range(settled + period_of(plan))]
    period = _least_turn(caught[settled:])
    remainders = sorted([n % period for n in range(settled, settled + period) if caught[n]])
    start = settled
    while start > 0 and caught[start - 1] == caught[start - 1 + period]:
        start -= 1
    early = tuple([n for n in range(start) if caught[n]])
    return (start, period, tuple(remainders), early)


def first_escape(plan, fleet):
    """Return the least n with which a plan lets a fleet escape, and the least place, or None."""
    for n in range(_caught_from(plan) + period_of(plan)):
        place = _escape(plan, fleet, n)
        if place is not None:
            return (n, place)
    return None


def _row_shots(fleet, n):
    """Return the fewest cells of a row that catch the ships.

    The shots part the row into runs. Ships are caught if each run is too short
    for the longest one; or, of two, if one run holds the longer one, but not
    both, and each other run is too short for the shorter one. Nothing else
    catches them, and of each kind, what has the longest runs has the fewest shots.
    """
    longest = fleet.ships[-1]
    short_runs = list(range(longest - 1, n, longest))
    if len(fleet.ships) == 1:
        return short_runs
    long_run = fleet.ships[0] + longest + fleet.gap - 1
    one_long_run = list(range(long_run, n, fleet.ships[0]))
    return one_long_run if len(one_long_run) < len(short_runs) else short_runs


def _fewest_shots(fleet, n):
    """Return the fewest cells of a row or a ring that catch the ships."""
    if fleet.shape == "row":
        return _row_shots(fleet, n)
    gaps = fleet.gap * 2 if len(fleet.ships) == 2 else 0
    if n < sum(fleet.ships) + gaps:
        return []
    # Any cells that catch the ships of a ring can be turned until one of them
    # is the cell 0: it parts the ring, and the other cells are a row.
    return [0] + [cell + 1 for cell in _row_shots(fleet, n - 1)]


def fewest(fleet):
    """Return the fewest cells that catch a fleet, for all n: (start, period, gain, counts)."""
    # Far out, one cell in so many as the longest ship has is needed, so a
    # lesser period would gain less than one cell.
    period = fleet.ships[-1]
    numbers = [len(_fewest_shots(fleet, n)) for n in range(_FEWEST_FROM + 2 * period)]
    start, period, gains, counts = form_of(numbers, period, _FEWEST_FROM)
    return (start, period, gains[0], counts)


def fewest_cells(fleet, n):
    """Return an ascending tuple of so few cells of n that catch a fleet."""
    need_number(n, _MOST_SHOTS_IN)
    return tuple(_fewest_shots(fleet, n))


def spare(plan, fleet):
    """Return the least n with which a plan lets a fleet escape or has a cell too many, or None."""
    start, period, gain, counts = fewest(fleet)
    above = first_above(count(plan), (start, period, (gain,) * period, counts))
    escape = first_escape(plan, fleet)
    if escape is None:
        return above
    return escape[0] if above is None else min(escape[0], above)
