"""A game against a hider who has not hidden yet."""

from shipsrow.counting import is_whole
from shipsrow.errors import BadCell, NoPlace, Over
from shipsrow.fleets import places
from shipsrow.shots import WORDS, all_sunk, parted, shot_by


def _hider_word(groups):
    """Return the word that leaves the most places, the first one of several."""
    many = [len(groups[word]) for word in WORDS]
    return WORDS[many.index(max(many))]


class Game:
    """A game whose hider answers each shot so that the most places are left."""

    def __init__(self, fleet, n):
        found = places(fleet, n)
        if not found:
            raise NoPlace("the fleet has no place in this sea")
        self._fleet = fleet
        self._size = n
        self._seen = ()
        # The places left at first, and behind each shot: what undo goes back to.
        self._stages = [found]

    @property
    def fleet(self):
        """The fleet."""
        return self._fleet

    @property
    def size(self):
        """The number of cells."""
        return self._size

    @property
    def seen(self):
        """The tuple of the answers so far."""
        return self._seen

    @property
    def left(self):
        """The number of places left."""
        return len(self._stages[-1])

    @property
    def over(self):
        """Whether all is sunk in all places left."""
        return all_sunk(self._stages[-1], shot_by(self._seen))

    def __len__(self):
        return len(self._seen)

    def shoot(self, cell):
        """Shoot at a cell, and return the hider's word."""
        shot = shot_by(self._seen)
        if not is_whole(cell, 0, self._size - 1) or cell in shot:
            raise BadCell("no cell of the sea, or one that was shot")
        if self.over:
            raise Over("all is sunk")
        groups = parted(self._stages[-1], shot, cell)
        word = _hider_word(groups)
        self._stages.append(groups[word])
        self._seen = self._seen + ((cell, word),)
        return word

    def undo(self):
        """Take the last shot back, and return whether there was one."""
        if len(self._seen) == 0:
            return False
        self._stages.pop()
        self._seen = self._seen[:-1]
        return True

    def copy(self):
        """Return an independent game that stands as this one."""
        twin = Game(self._fleet, self._size)
        twin._seen = self._seen
        twin._stages = list(self._stages)
        return twin
