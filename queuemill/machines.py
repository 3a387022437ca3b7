"""Machines that do rows: one lays worths on a pile, the other in a queue."""

from queuemill.checks import check_fuel
from queuemill.worlds import Fault, Long, World

# A deed is over with one of these.
DEED_ROWS = ("set", "put", "say", "unless", "return", "away")

# How many worths a row wants; of call its row tells.
WANTED = {
    "num": 0, "name": 0, "add": 2, "take": 2, "times": 2, "over": 2, "rest": 2, "less": 2, "same": 2, "not": 1,
    "get": 1, "set": 1, "put": 2, "say": 1, "unless": 1, "return": 1, "away": 1, "turn": 1, "go": 0, "round": 0,
}


def run_pile(rows, fuel):
    """Do rows for the pile, and tell (said, end, cells)."""
    check_fuel(fuel)
    return told_at_last(Machine(rows, fuel, False))


def run_queue(rows, fuel):
    """Do rows for the queue, and tell (said, end, cells)."""
    check_fuel(fuel)
    return told_at_last(Machine(rows, fuel, True))


def held(pile, queue, fuel):
    """Do rows for the pile and rows for the queue side by side: (unlike, told, counts)."""
    check_fuel(fuel)
    one = Machine(pile, fuel, False)
    other = Machine(queue, fuel, True)
    unlike = None
    while one.end is None and unlike is None:
        said_alike = len(one.world.said)
        one.do_deed()
        other.do_deed()
        if not are_alike(one, other, said_alike):
            unlike = one.deeds_done
    return (unlike, one.answer(), [one.counts(), other.counts()])


def told_at_last(machine):
    while machine.end is None:
        machine.do_deed()
    return machine.answer()


def are_alike(one, other, said_alike):
    """Whether two machines stand alike; so many of the worths said are known to be."""
    return (
        one.end == other.end
        and one.waiting() == other.waiting()
        and one.names_now() == other.names_now()
        and one.world.cells == other.world.cells
        and one.world.said[said_alike:] == other.world.said[said_alike:])


class Frame:
    """A fun that is being done: its next row, its names, and the worths that lie in its pile or queue."""

    def __init__(self, begin, handed):
        self.at, names = begin
        self.names = handed + [0] * (names - len(handed))
        self.worths = []


class Machine:
    """A machine that does rows, with what it has done so far; its end is None if there is none yet."""

    def __init__(self, told_rows, fuel, has_queue):
        self.begins, self.rows = told_rows
        self.has_queue = has_queue
        self.world = World(fuel)
        self.frames = [Frame(self.begins[0], [])]
        self.end = None
        self.rows_done = 0
        self.deeds_done = 0
        self.lying = 0
        self.most_lying = 0

    def answer(self):
        return (self.world.said, self.end, self.world.cells)

    def counts(self):
        return (self.rows_done, self.deeds_done, self.most_lying)

    def waiting(self):
        """How many calls wait."""
        return len(self.frames) - 1

    def names_now(self):
        """The names of the fun that is being done, none if all is over."""
        return self.frames[-1].names if self.frames else []

    def do_deed(self):
        """Do rows until a deed is over, or all is."""
        deed_is_over = False
        try:
            while not deed_is_over:
                deed_is_over = self.do_row()
        except Fault as fault:
            self.end = ("fault", fault.word)
        except Long:
            self.end = ("long",)

    def do_row(self):
        """Do the next row, and tell whether a deed is over with it."""
        frame = self.frames[-1]
        row = self.rows[frame.at]
        frame.at += 1
        # Counted ahead: a row that fails counts, and so does a put that fails.
        self.rows_done += 1
        is_deeds_own = row[0] in DEED_ROWS
        if is_deeds_own:
            self.deeds_done += 1
        self.do_with(frame, row, self.taken(frame, row))
        return is_deeds_own

    def taken(self, frame, row):
        """Take the worths that a row wants, in turn."""
        many = row[2] if row[0] == "call" else WANTED[row[0]]
        start = 0 if self.has_queue else len(frame.worths) - many
        worths = frame.worths[start:start + many]
        del frame.worths[start:start + many]
        self.lying -= many
        return worths

    def lay(self, worth):
        """Lay a worth in the pile or queue of the fun that is being done."""
        self.frames[-1].worths.append(worth)
        self.lying += 1
        self.most_lying = max(self.most_lying, self.lying)

    def do_with(self, frame, row, worths):
        """Do a row for which these worths were taken."""
        match row:
            case ("set", name):
                frame.names[name] = worths[0]
            case ("put",):
                self.world.put_in(worths[0], worths[1])
            case ("say",):
                self.world.said.append(worths[0])
            case ("unless", place):
                if worths[0] == 0:
                    frame.at = place
            case ("go", place):
                frame.at = place
            case ("round",):
                self.world.spend()
            case ("away",):
                pass
            case ("return",):
                self.leave(worths[0])
            case ("call", fun, _):
                self.enter(fun, worths)
            case ("turn",):
                self.lay(worths[0])
            case _:
                self.lay(self.world.worth_here(row, frame.names, worths))

    def enter(self, fun, handed):
        self.world.spend_on_call(self.waiting())
        self.frames.append(Frame(self.begins[fun], handed))

    def leave(self, worth):
        """End the fun that is being done; the one that called it gets the worth."""
        self.frames.pop()
        if self.frames:
            self.lay(worth)
        else:
            self.end = ("worth", worth)
