"""Plans: every so-manieth cell from either end, and some near the ends."""

from math import lcm

from shipsrow.counting import first_above, form_of, is_whole, need_number
from shipsrow.errors import BadPart

_MOST_CELLS = 10000

# Single cells of a plan lie within 6 cells of an end. From 12 cells on those
# of the two ends do not meet, and as many cells as the period of the plan can
# be put in or taken out between them: the others keep what they are.
_ENDS = 12


def _is_part(part):
    """Tell whether a value is a part of a plan."""
    if not isinstance(part, tuple) or len(part) not in (2, 3):
        return False
    if len(part) == 2:
        return part[0] in ("cell", "back") and is_whole(part[1], 0, 5)
    if part[0] not in ("every", "every_back") or not is_whole(part[1], 1, 6):
        return False
    return is_whole(part[2], 0, part[1] - 1)


class Plan:
    """At most four different parts, which tell the cells to shoot at."""

    def __init__(self, parts):
        if not isinstance(parts, tuple) or len(parts) > 4:
            raise BadPart(None)
        for index, part in enumerate(parts):
            if not _is_part(part) or part in parts[:index]:
                raise BadPart(index)
        self._parts = parts

    @property
    def parts(self):
        """The parts, in their order."""
        return self._parts

    def __len__(self):
        return len(self._parts)

    def __eq__(self, other):
        return isinstance(other, Plan) and self._parts == other._parts


def _part_cells(part, n):
    """Return the cells of one part in n cells."""
    word = part[0]
    if word == "every":
        return list(range(part[2], n, part[1]))
    if word == "every_back":
        return list(range((n - 1 - part[2]) % part[1], n, part[1]))
    at = part[1] if word == "cell" else n - 1 - part[1]
    return [at] if 0 <= at < n else []


def cells_in(plan, n):
    """Return the ascending list of the cells of a plan in any number of cells."""
    found = {}
    for part in plan.parts:
        for cell in _part_cells(part, n):
            found[cell] = True
    return sorted(found)


def cells(plan, n):
    """Return the ascending list of the cells of a plan in n cells."""
    need_number(n, _MOST_CELLS)
    return cells_in(plan, n)


def period_of(plan):
    """Return the least common multiple of all k in a plan."""
    period = 1
    for part in plan.parts:
        if len(part) == 3:
            period = lcm(period, part[1])
    return period


def count(plan):
    """Return how many cells a plan has, for all n: (start, period, gains, counts)."""
    period = period_of(plan)
    numbers = [len(cells_in(plan, n)) for n in range(_ENDS + 2 * period)]
    return form_of(numbers, period, _ENDS)


def alike(one, other):
    """Tell whether two plans have the same cells for all n."""
    period = lcm(period_of(one), period_of(other))
    # A longer sea shows nothing new: periods can be taken out of it between the
    # ends until one of these is left, which still has a cell of each remainder.
    return all([cells_in(one, n) == cells_in(other, n) for n in range(_ENDS + 2 * period)])


def more(one, other):
    """Return the least n with which one plan has more cells than the other, or None."""
    return first_above(count(one), count(other))
