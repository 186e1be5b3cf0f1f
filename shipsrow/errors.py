"""The errors that the package raises."""


class SeaError(ValueError):
    """The base class of all errors of this package."""


class BadShape(SeaError):
    """A shape that is neither a row nor a ring."""


class BadShips(SeaError):
    """What is no ascending tuple of one or two lengths from 1 to 4."""


class BadGap(SeaError):
    """A gap that is neither 0 nor 1."""


class BadNumber(SeaError):
    """A number of cells that is no integer within its bounds."""


class BadPart(SeaError):
    """A thing in a plan that is no part or stands earlier; no index for what holds no parts."""

    def __init__(self, index):
        super().__init__(f"no part of a plan at {index}")
        self.index = index


class BadSeen(SeaError):
    """A thing among answers that is no answer at a cell that was not shot ahead."""

    def __init__(self, index):
        super().__init__(f"no answer at {index}")
        self.index = index


class BadOrder(SeaError):
    """A thing in an order that is no cell, or stands earlier."""

    def __init__(self, index):
        super().__init__(f"no cell of an order at {index}")
        self.index = index


class NoPlace(SeaError):
    """A sea in which the fleet has no place."""


class BadCell(SeaError):
    """What is no cell of the sea, or was shot."""


class Over(SeaError):
    """A shot when all is sunk."""


class BadLine(SeaError):
    """A line of a text that cannot stand there, and its first word that cannot."""

    def __init__(self, line, word):
        super().__init__(f"line {line} is wrong from word {word} on")
        self.line = line
        self.word = word
