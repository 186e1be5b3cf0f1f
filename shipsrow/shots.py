"""Shots at a fleet: the words that answer them, and the places that the words leave."""

# In this order the hider of a game takes them, if several leave the most places.
WORDS = ("miss", "hit", "sunk")


def is_on(place, cell):
    """Tell whether a cell belongs to a ship of a place."""
    return any([cell in ship for ship in place])


def _word_at(place, shot, cell):
    """Return the answer of a place to a shot, behind the cells that were shot ahead."""
    for ship in place:
        if cell in ship:
            whole = all([other == cell or other in shot for other in ship])
            return "sunk" if whole else "hit"
    return "miss"


def parted(found, shot, cell):
    """Return a dict of the places that each word leaves, if a cell is shot next."""
    groups = {word: [] for word in WORDS}
    for place in found:
        groups[_word_at(place, shot, cell)].append(place)
    return groups


def shot_by(seen):
    """Return a dict of the cells at which there are answers."""
    return {answer[0]: True for answer in seen}


def all_sunk(found, shot):
    """Tell whether the shots have sunk all ships in all these places."""
    return all([cell in shot for place in found for ship in place for cell in ship])
