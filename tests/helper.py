"""What the tests have in common: short ways to write programs and to read their logs."""

import unittest

from loopyard.errors import BadProgram
from loopyard.program import Program
from loopyard.running import run

ANY_FAULT = ("BaseException",)


def main(*steps, **routines):
    """A program of an async routine main with these steps, and of other routines."""
    return Program({"main": ("async", (), tuple(steps)), **routines})


def report(*steps, outside=(), debug=False, slow=100, turns=2000, **routines):
    program = Program({"main": ("async", (), tuple(steps)), **routines}, outside=outside)
    return run(program, ("main",), debug=debug, slow=slow, turns=turns)


def log(*steps, **more):
    return report(*steps, **more).log


def said(*steps, **more):
    """What was said, without the clock and the name of the task."""
    rows = [row[2:] for row in log(*steps, **more)]
    return [row[0] if len(row) == 1 else row for row in rows]


def let(name, *call):
    return ("let", name, call)


def do(*call):
    return ("do", call)


def say(*args):
    return ("say", *args)


def wait(*call):
    """Await what the call gives."""
    return ("await", None, call)


def sleep(ticks):
    return wait("sleep", ticks)


def catch(*steps, kinds=ANY_FAULT, then=(("say", "@e"),)):
    """Carry out the steps; say the fault that comes out."""
    return ("try", steps, ((kinds, "e", then),), (), ())


def tell(*call):
    """Say what a call gives, or the fault that it raises."""
    return catch(let("r", *call), say("@r"))


def tell_await(*call):
    """Say what awaiting what a call gives gives, or the fault that it raises."""
    return catch(("await", "r", call), say("@r"))


def start(task, *call):
    """Make a task of a routine or an op, and keep it in this variable."""
    return ("try", (("let", "start_c", call), ("let", task, ("task", "@start_c"))), (), (), ())


def asynced(*steps, params=()):
    return ("async", params, steps)


def plain(*steps, params=()):
    return ("plain", params, steps)


def fault(kind, *told):
    return ("fault", kind, *told)


RAISES = asynced(("let", "w", ("fault", "Odd", "@n")), ("raise", "@w"), params=("n",))
SAYS = plain(("say", "@v"), params=("v",))


class Case(unittest.TestCase):
    def assert_said(self, expected, *steps, **more):
        self.assertEqual(expected, said(*steps, **more))

    def assert_place(self, place, routines, **more):
        with self.assertRaises(BadProgram) as caught:
            Program(routines, **more)
        self.assertEqual(place, caught.exception.place)

    def assert_fault(self, kind, *call, before=(), **more):
        """The call raises this fault, which has no args."""
        self.assert_said([fault(kind)], *before, tell(*call), **more)

    def assert_await_fault(self, kind, *call, before=(), **more):
        """The call gives something of which awaiting raises this fault, which has no args."""
        steps = (*before, let("co", *call), say("made"), tell_await("it", "@co"))
        self.assert_said(["made", fault(kind)], *steps, **more)
