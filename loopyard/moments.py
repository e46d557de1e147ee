"""What hangs together at a moment of a loop: all that can be come to from something [12.2, 12.6].

Each thing, fault, activation and wait tells by has(moment) what it has, as a tuple of values and of
other such objects; each callback tells by does(moment) what it does, likewise.
"""

# Who uses one of these in a program can tell the time, or goes by it.
TIME_OPS = ("time", "when", "at", "timeout_at", "reschedule")

# How the parts of a row are marked that do not stand for themselves.
SPAN = 0
TRUTH = 1
NUMBER = 2


def pairs_of(variables):
    return tuple([(name, variables[name]) for name in sorted(variables)])


class Common:
    """What all activations, and all plain routines as callbacks, lead to."""

    def __init__(self, loop):
        self.loop = loop

    def has(self, moment):
        loop = self.loop
        tasks = ()
        if "tasks" in loop.used:
            tasks = tuple(list(loop.undone.values()))
        return (pairs_of(loop.shared), loop.reporter, tasks)


class Moment:
    """What is asked for to tell what something has at this moment."""

    def __init__(self, loop):
        self.loop = loop
        self.tells_time = any([word in loop.used for word in TIME_OPS])
        self.tells_names = "name" in loop.used
        self.common = Common(loop)
        self.carried = None

    def time_of(self, due, is_coming):
        """A time less the clock, as long as it is to come; as it is, if the program can tell."""
        if due is None or self.tells_time:
            return due
        if is_coming:
            return due - self.loop.now
        return None

    def name_of(self, task):
        if self.tells_names:
            return task.name
        return None

    def is_carried_out(self, carrier):
        """Whether a pending task carries this out."""
        if self.carried is None:
            self.carried = {}
            for task in list(self.loop.undone.values()):
                for other in task.stack:
                    self.carried[other] = True
        return carrier in self.carried


class Walk:
    """A walk from some rows of values to all that they lead to: each object is numbered as it is come to.

    Two walks have equal rows just if what they come to is the same but for the numbers.
    """

    def __init__(self, moment, roots):
        self.moment = moment
        self.numbers = {}
        # What is still to be told, the next one last: roots are tuples, and all else are objects.
        self.todo = list(roots)
        self.todo.reverse()

    def is_over(self):
        return not self.todo

    def next_row(self):
        """The next root, or what the next object has: plain values as they are, objects by their numbers."""
        part = self.todo.pop()
        if isinstance(part, tuple):
            return self.flat(part)
        return self.flat((part.__class__.__name__, part.has(self.moment)))

    def flat(self, value):
        """A value without tuples inside; the objects in it that were not met before are told next."""
        row = []
        met = []
        rest = [value]
        while rest:
            part = rest.pop()
            if isinstance(part, tuple):
                row.append((SPAN, len(part)))
                rest.extend(part[::-1])
            elif isinstance(part, bool):
                row.append((TRUTH, part))
            elif part is None or isinstance(part, (str, int)):
                row.append(part)
            else:
                if part not in self.numbers:
                    self.numbers[part] = len(self.numbers)
                    met.append(part)
                row.append((NUMBER, self.numbers[part]))
        self.todo.extend(met[::-1])
        return row
