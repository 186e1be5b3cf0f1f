"""Whole numbers within bounds, and forms: numbers told for all n at once.

A form is a tuple (start, period, gains, counts): counts are the numbers for
0 to start + period - 1, and from start on the number for n + period is
gains[n % period] more than the one for n.
"""

from math import lcm

from shipsrow.errors import BadNumber


def is_whole(value, low, high):
    """Tell whether a value is an integer from low to high, and no boolean."""
    if isinstance(value, bool) or not isinstance(value, int):
        return False
    return low <= value <= high


def need_number(n, most):
    """Raise BadNumber unless n is a number of cells from 0 to most."""
    if not is_whole(n, 0, most):
        raise BadNumber(f"no number of cells from 0 to {most}")


def form_of(numbers, period, settled):
    """Make the form, its start the least one, of numbers that gain alike from settled on.

    There are numbers for 0 to settled + 2 * period - 1.
    """
    gains = [0] * period
    for n in range(settled, settled + period):
        gains[n % period] = numbers[n + period] - numbers[n]
    start = settled
    while start > 0 and numbers[start - 1 + period] - numbers[start - 1] == gains[(start - 1) % period]:
        start -= 1
    return (start, period, tuple(gains), tuple(numbers[:start + period]))


def number_at(form, n):
    """Return the number that a form tells for n."""
    start, period, gains, counts = form
    steps = max(0, (n - start) // period)
    return counts[n - steps * period] + steps * gains[n % period]


def first_above(one, other):
    """Return the least n for which one form tells more than the other, or None."""
    start = max(one[0], other[0])
    period = lcm(one[1], other[1])
    found = []
    for n in range(start + period):
        lead = number_at(one, n) - number_at(other, n)
        if lead > 0:
            found.append(n)
        elif n >= start:
            gain = number_at(one, n + period) - number_at(other, n + period) - lead
            # From start on the lead grows by the same gain at each step, so
            # the first step at which it is above 0 can be told at once.
            if gain > 0:
                found.append(n + period * (-lead // gain + 1))
    return min(found, default=None)
