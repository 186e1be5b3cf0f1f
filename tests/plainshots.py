"""Plain answers, games and lines, written from the document's words, to hold answers against.

Nothing here uses the package. A fleet is told by (shape, ships, gap), as in plain.py.
"""

import random

import plain

WORDS = ("miss", "hit", "sunk")


def replies(place, cells):
    """The words for shots at these cells, one after the other, if the ships are there."""
    shot, words = set(), []
    for cell in cells:
        shot.add(cell)
        met = [ship for ship in place if cell in ship]
        if not met:
            words.append("miss")
        elif any(other not in shot for other in met[0]):
            words.append("hit")
        else:
            words.append("sunk")
    return words


def fitting(fleet, n, seen):
    """All places that would have answered so."""
    cells, words = [cell for cell, _ in seen], [word for _, word in seen]
    return [place for place in plain.places_of(fleet, n) if replies(place, cells) == words]


def groups_of(found, cells):
    """How these places answer the last one of the shots: a dict of lists."""
    groups = {word: [] for word in WORDS}
    for place in found:
        groups[replies(place, cells)[-1]].append(place)
    return groups


def is_sunk(place, cells):
    return all(cell in cells for ship in place for cell in ship)


def is_hit_by(place, cell):
    return any(cell in ship for ship in place)


def tried_to_sink(found, n, cells=()):
    """The fewest shots more that sink all ships, by a trial of all shots and answers."""
    if all(is_sunk(place, cells) for place in found):
        return 0
    most = []
    for cell in range(n):
        if cell not in cells:
            groups = groups_of(found, cells + (cell,))
            most.append(max(tried_to_sink(group, n, cells + (cell,)) for group in groups.values() if group))
    return 1 + min(most)


def some_seas(seed, many, most=40):
    """Fleets and numbers of cells in which they have a place, with a source for more draws."""
    source = random.Random(seed)
    while many > 0:
        fleet, n = source.choice(plain.FLEETS), source.randint(1, most)
        if plain.places_of(fleet, n):
            many -= 1
            yield source, fleet, n


def some_answers(source, fleet, n, most_shots):
    """Answers as some place gives them."""
    place = source.choice(plain.places_of(fleet, n))
    cells = source.sample(range(n), source.randint(0, min(n, most_shots)))
    return list(zip(cells, replies(place, cells)))


class Opponent:
    """A hider who keeps all places that fit, and what a game against it shows."""

    def __init__(self, fleet, n):
        self.found, self.cells, self.words = plain.places_of(fleet, n), (), ()

    def answer(self, cell):
        self.cells += (cell,)
        groups = groups_of(self.found, self.cells)
        word = max(WORDS, key=lambda each: (len(groups[each]), -WORDS.index(each)))
        self.found, self.words = groups[word], self.words + (word,)
        return word

    def shows(self):
        over = all(is_sunk(place, self.cells) for place in self.found)
        return (tuple(zip(self.cells, self.words)), len(self.found), over, len(self.cells))


# All lines that can stand in a text, as tuples of words.
FIRST_LINES = [("fleet", shape, *map(str, ships), "gap", str(gap)) for shape, ships, gap in plain.FLEETS]
PART_LINES = [tuple(map(str, part)) for part in plain.PARTS]


def wrong_word(words, lines, earlier=()):
    """The first word that cannot stand, counted from 1; None if these words are such a line."""
    for many in range(1, len(words) + 1):
        if words[:many] in earlier or not any(line[:many] == words[:many] for line in lines):
            return many
    return None if words in lines else len(words) + 1


def wrong_place(text):
    """The line and the word that cannot stand; None if the whole text can."""
    rows = [tuple(word for word in line.split(" ") if word) for line in text.split("\n")]
    for number, words in enumerate(rows, start=1):
        if number == 1:
            word = wrong_word(words, FIRST_LINES)
        elif number < 6:
            word = wrong_word(words, PART_LINES, rows[1:number - 1])
        else:
            word = 1
        if word is not None:
            return (number, word)
    return None
