"""The errors of the functions of this package; the faults of a program are something else."""


class LoopError(ValueError):
    """What all errors of this package are."""

    def __init__(self, why=""):
        self.why = why


class BadProgram(LoopError):
    """Something is no program, or no call of it: place tells where."""

    def __init__(self, place=()):
        LoopError.__init__(self, "this is no program, or no call of one")
        self.place = place


class BadValue(LoopError):
    """An argument is not of the kind that is asked for."""

    def __init__(self, why=""):
        LoopError.__init__(self, why)


class TooLong(LoopError):
    """So many turns were not enough."""

    def __init__(self, turns):
        LoopError.__init__(self, "not over behind so many turns")
        self.turns = turns


class Raised(LoopError):
    """A fault came out of a program: it stands here as it is shown."""

    def __init__(self, fault):
        LoopError.__init__(self, "a fault came out")
        self.fault = fault


class Stuck(LoopError):
    """Nothing will ever come."""

    def __init__(self, why=""):
        LoopError.__init__(self, why)
