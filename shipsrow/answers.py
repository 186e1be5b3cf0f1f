"""What answers tell: the places left, what is sure then, and where to shoot next."""

from shipsrow.counting import is_whole
from shipsrow.errors import BadSeen
from shipsrow.fleets import places
from shipsrow.shots import WORDS, is_on, parted, shot_by


def _is_answer(thing, n, shot):
    """Tell whether a value is an answer at a cell that was not shot ahead."""
    if not isinstance(thing, tuple) or len(thing) != 2:
        return False
    return is_whole(thing[0], 0, n - 1) and thing[0] not in shot and thing[1] in WORDS


def _need_answers(n, seen):
    """Raise BadSeen unless all things are answers at unlike cells."""
    shot = {}
    for index, thing in enumerate(seen):
        if not _is_answer(thing, n, shot):
            raise BadSeen(index)
        shot[thing[0]] = True


def left(fleet, n, seen):
    """Return the ascending list of the places that fit the answers."""
    found = places(fleet, n)
    _need_answers(n, seen)
    shot = {}
    for cell, word in seen:
        found = parted(found, shot, cell)[word]
        shot[cell] = True
    return found


def _fresh_cells(n, seen):
    """Return the ascending list of the cells that were not shot."""
    shot = shot_by(seen)
    return [cell for cell in range(n) if cell not in shot]


def surely(fleet, n, seen):
    """Return the fresh cells that belong to a ship in all places left, and in none; or None."""
    found = left(fleet, n, seen)
    if not found:
        return None
    on_ships, free = [], []
    for cell in _fresh_cells(n, seen):
        many = len([place for place in found if is_on(place, cell)])
        if many == len(found):
            on_ships.append(cell)
        elif many == 0:
            free.append(cell)
    return (tuple(on_ships), tuple(free))


def telling(fleet, n, seen):
    """Return the least fresh cell whose answer leaves, at worst, the fewest places, or None."""
    found = left(fleet, n, seen)
    fresh = _fresh_cells(n, seen)
    if not found or not fresh:
        return None
    shot = shot_by(seen)
    most_left = []
    for cell in fresh:
        groups = parted(found, shot, cell)
        most_left.append(max([len(groups[word]) for word in WORDS]))
    return fresh[most_left.index(min(most_left))]
