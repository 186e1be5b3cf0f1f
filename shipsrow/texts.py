"""A fleet and a plan as a text, and back."""

from shipsrow.errors import BadLine
from shipsrow.fleets import Fleet
from shipsrow.plans import Plan

_MOST_PARTS = 4

# The words that can stand at the first three places of the first line.
_FLEET_HEAD = (("fleet",), ("row", "ring"), ("1", "2", "3", "4"))


def write(fleet, plan):
    """Return the text of a fleet and a plan."""
    rows = [("fleet", fleet.shape) + fleet.ships + ("gap", fleet.gap)]
    rows.extend(list(plan.parts))
    return "\n".join([" ".join([str(item) for item in row]) for row in rows])


def _numbers(low, high):
    """Return the words for the integers from low to high."""
    return tuple([str(k) for k in range(low, high + 1)])


def _fleet_words(before):
    """Return the words that can stand behind these in the first line, none if it is whole."""
    if len(before) < len(_FLEET_HEAD):
        return _FLEET_HEAD[len(before)]
    if before[-1] == "gap":
        return ("0", "1")
    if before[-2] == "gap":
        return ()
    if len(before) == len(_FLEET_HEAD):
        return _numbers(int(before[-1]), 4) + ("gap",)
    return ("gap",)


def _part_words(before):
    """Return the words that can stand behind these in the line of a part, none if it is whole."""
    if len(before) == 0:
        return ("every", "every_back", "cell", "back")
    single = before[0] in ("cell", "back")
    if len(before) == 1:
        return _numbers(0, 5) if single else _numbers(1, 6)
    if single or len(before) == 3:
        return ()
    return _numbers(0, int(before[1]) - 1)


def _need_line(number, words, words_behind, earlier):
    """Raise BadLine unless the words are a whole line, and none of the earlier ones."""
    for at, word in enumerate(words):
        # What stands earlier is told by its last word, whatever follows that.
        if word not in words_behind(words[:at]) or words[:at + 1] in earlier:
            raise BadLine(number, at + 1)
    if len(words_behind(words)) > 0:
        raise BadLine(number, len(words) + 1)


def _fleet_of(words):
    """Return the fleet that a whole first line tells."""
    ships = tuple([int(word) for word in words[2:-2]])
    return Fleet(words[1], ships, int(words[-1]))


def _part_of(words):
    """Return the part that a whole line tells."""
    return (words[0],) + tuple([int(word) for word in words[1:]])


def read(text):
    """Return the fleet and the plan that a text tells."""
    # Only spaces part words: split without an argument would take tabs, too.
    lines = [[word for word in line.split(" ") if word != ""] for line in text.split("\n")]
    _need_line(1, lines[0], _fleet_words, [])
    for at in range(1, len(lines)):
        if at > _MOST_PARTS:
            raise BadLine(at + 1, 1)
        _need_line(at + 1, lines[at], _part_words, lines[1:at])
    return (_fleet_of(lines[0]), Plan(tuple([_part_of(words) for words in lines[1:]])))
