"""A run: a row of turns for a future, or for none [11.1, 11.2]."""

from loopyard.activation import start_routine
from loopyard.coroutines import new_coroutine
from loopyard.errors import BadValue
from loopyard.faults import Fault, Thrown, is_exit
from loopyard.futures import ask, is_done, see
from loopyard.tasks import make_task
from loopyard.texts import is_whole


class RunEnd:
    """The callback that ends a run for a future."""

    def who(self):
        return "run"

    def does(self, moment):
        return ("run",)

    def fire(self, loop, given):
        see(loop, given)
        if given.fault is None or not is_exit(given.fault):
            loop.stopping = True


def task_of_call(loop, call, name=None):
    """A new task of an async routine of the program, with these values."""
    started = start_routine(loop, call[0], list(call[1:]))
    return make_task(loop, new_coroutine(loop, call[0], started), name)


def outcome_of_run(loop, aim, fault):
    """What comes out of a run for a future, which this fault of a callback has ended, if it is not None.

    A tuple of the value and the fault that come out.
    """
    if fault is not None:
        return (None, fault)
    if not is_done(aim):
        return (None, Fault("RuntimeError"))
    try:
        return (ask(loop, aim), None)
    except Thrown as e:
        return (None, e.fault)


def check_whole_from_1(value):
    if not is_whole(value) or value < 1:
        raise BadValue("a whole number from 1 on is needed")


def check_loop_values(debug, slow):
    if not isinstance(debug, bool):
        raise BadValue("debug is True or False")
    check_whole_from_1(slow)
