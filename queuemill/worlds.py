"""What all funs of a program share while it is done, and how worths are made."""

LEAST = -1000000000
SPAN = 2000000000
MANY_CELLS = 64
MOST_WAITING = 60


class Fault(Exception):
    """A fault ends everything: the word for it."""

    def __init__(self, word):
        super().__init__(f"fault: {word}")
        self.word = word


class Long(Exception):
    """One more call or round was to be done than there is fuel for."""


class World:
    """What was said, what the cells hold, and the fuel that is left."""

    def __init__(self, fuel):
        self.said = []
        self.cells = [0] * MANY_CELLS
        self.fuel = fuel

    def held_in(self, cell):
        check_cell(cell)
        return self.cells[cell]

    def put_in(self, cell, worth):
        check_cell(cell)
        self.cells[cell] = worth

    def worth_here(self, row, names, worths):
        """What a part that calls nothing comes to, by the part itself or by its row."""
        word = row[0]
        if word == "num":
            return row[1]
        if word == "name":
            return names[row[1]]
        if word == "get":
            return self.held_in(worths[0])
        return worth_of(word, worths)

    def spend_on_call(self, waiting):
        """Pay for one more call, while so many wait already."""
        if waiting >= MOST_WAITING:
            raise Fault("deep")
        self.spend()

    def spend(self):
        """Pay for one more call or round."""
        if self.fuel == 0:
            raise Long()
        self.fuel -= 1


def check_cell(cell):
    if not 0 <= cell < MANY_CELLS:
        raise Fault("cell")


def in_stretch(number):
    """The worth that a number comes to."""
    return (number - LEAST) % SPAN + LEAST


def worth_of(word, worths):
    """What a part comes to that needs nothing but the worths within it."""
    if word == "not":
        return 1 if worths[0] == 0 else 0
    one, other = worths
    if word in ("over", "rest"):
        return divided(word, one, other)
    if word == "add":
        return in_stretch(one + other)
    if word == "take":
        return in_stretch(one - other)
    if word == "times":
        return in_stretch(one * other)
    if word == "less":
        return 1 if one < other else 0
    return 1 if one == other else 0


def divided(word, one, other):
    if other == 0:
        raise Fault("over")
    if word == "over":
        return in_stretch(one // other)
    return one % other
