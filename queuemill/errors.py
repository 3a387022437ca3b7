"""The refusals of the program."""


class MillError(ValueError):
    """Any refusal."""


class BadProgram(MillError):
    """What was handed in is no program: the fun, the thing in it, and why."""

    def __init__(self, fun, at, why):
        super().__init__(f"no program: fun {fun}, thing {at}: {why}")
        self.fun = fun
        self.at = at
        self.why = why


class BadDeed(MillError):
    """A deed that can stand in no program: the thing in it, and why."""

    def __init__(self, at, why):
        super().__init__(f"no deed: thing {at}: {why}")
        self.at = at
        self.why = why


class BadFuel(MillError):
    """Fuel that is less than none or too much."""


class BadStages(MillError):
    """Stages that a deed cannot be laid by."""


class BadPaper(MillError):
    """A paper that shows nothing of a deed."""


class BadText(MillError):
    """A text that is no program's: the place of the first word that can't stand there."""

    def __init__(self, place):
        super().__init__(f"no text of a program: word {place}")
        self.place = place
