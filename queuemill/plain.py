"""A program done by its text."""

from queuemill.checks import check_fuel, check_program
from queuemill.words import parts_of
from queuemill.worlds import Fault, Long, World


def run(program, fuel):
    """Do a program from fun 0 on, and tell (said, end, cells)."""
    check_program(program)
    check_fuel(fuel)
    world = World(fuel)
    try:
        end = ("worth", Doing(program, world).told_at_last())
    except Fault as fault:
        end = ("fault", fault.word)
    except Long:
        end = ("long",)
    return (world.said, end, world.cells)


class Frame:
    """A fun that is being done.

    todo holds what it has yet to do, the next one last, each with whether the
    parts within it are done; their worths wait at the end of worths.
    """

    def __init__(self, fun, handed):
        _, names, body = fun
        self.names = handed + [0] * (names - len(handed))
        self.todo = []
        self.worths = []
        self.lay_ahead(body)

    def lay_ahead(self, things):
        """Have things done next, in turn."""
        for thing in reversed(things):
            self.todo.append((False, thing))

    def take_worths(self, many):
        start = len(self.worths) - many
        taken = self.worths[start:]
        del self.worths[start:]
        return taken


class Doing:
    """A program that is being done.

    Sixty calls may wait, each amid deeply nested deeds and parts. So frames and
    what they have to do are kept in lists: Python's own calls would not go so deep.
    """

    def __init__(self, program, world):
        self.program = program
        self.world = world
        self.frames = [Frame(program[0], [])]
        self.told = 0

    def told_at_last(self):
        """Do everything, and tell the worth that fun 0 tells."""
        while self.frames:
            frame = self.frames[-1]
            if frame.todo:
                self.step(frame)
            else:
                self.leave(0)
        return self.told

    def step(self, frame):
        parts_are_done, thing = frame.todo.pop()
        if parts_are_done:
            self.finish(frame, thing, frame.take_worths(len(parts_of(thing))))
        else:
            frame.todo.append((True, thing))
            frame.lay_ahead(parts_of(thing))

    def finish(self, frame, thing, worths):
        """Do a deed or a part whose parts came to these worths."""
        match thing:
            case ("set", name, _):
                frame.names[name] = worths[0]
            case ("put", _, _):
                self.world.put_in(worths[0], worths[1])
            case ("say", _):
                self.world.said.append(worths[0])
            case ("if", _, body, other):
                frame.lay_ahead(other if worths[0] == 0 else body)
            case ("while", _, body):
                if worths[0] != 0:
                    self.world.spend()
                    frame.lay_ahead((*body, thing))
            case ("return", _):
                self.leave(worths[0])
            case ("do", _):
                pass
            case ("call", fun, _):
                self.enter(fun, worths)
            case _:
                frame.worths.append(self.world.worth_here(thing, frame.names, worths))

    def enter(self, fun, handed):
        self.world.spend_on_call(len(self.frames) - 1)
        self.frames.append(Frame(self.program[fun], handed))

    def leave(self, worth):
        """End the fun that is being done; the one that called it gets the worth."""
        self.frames.pop()
        if self.frames:
            self.frames[-1].worths.append(worth)
        else:
            self.told = worth
