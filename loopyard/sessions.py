"""Sessions: loops that their users run [11.8]."""

from loopyard.errors import BadValue, Raised, Stuck, TooLong
from loopyard.faults import Thrown
from loopyard.futures import is_done, lay, see, unlay
from loopyard.loop import Loop
from loopyard.program import check_call, check_program
from loopyard.runs import RunEnd, check_loop_values, check_whole_from_1, outcome_of_run, task_of_call

CLOSED = ("fault", "RuntimeError")

# How a row of turns ends.
STOPPED = 0
STUCK = 1
BUSY = 2


class Session:
    """A loop of a program that is run by hand, again and again until it is closed."""

    def __init__(self, program, *, debug=False, slow=100):
        check_program(program)
        check_loop_values(debug, slow)
        self.program = program
        self.loop = Loop(program, debug, slow)
        self.log = self.loop.log
        self.notes = self.loop.notes

    def create_task(self, call, name=None):
        """Make a task of an async routine; its name."""
        check_call(self.program, call)
        if name is not None and not isinstance(name, str):
            raise BadValue("a name is a text or None")
        self.check_open()
        return task_of_call(self.loop, call, name).name

    def run_until_complete(self, call, turns=2000):
        """Make a task and do a run for it; its result, shown."""
        check_call(self.program, call)
        check_whole_from_1(turns)
        self.check_open()
        loop = self.loop
        task = task_of_call(loop, call)
        fault = self.do_run(task, turns)
        if fault is not None and is_done(task):
            see(loop, task)
        value, what_came = outcome_of_run(loop, task, fault)
        if what_came is not None:
            raise Raised(loop.show(what_came))
        return loop.show(value)

    def run_forever(self, turns=2000):
        """Do a run for no future: until something stops it."""
        check_whole_from_1(turns)
        self.check_open()
        fault = self.do_run(None, turns)
        if fault is not None:
            raise Raised(self.loop.show(fault))

    def stop(self):
        loop = self.loop
        loop.stopping = True

    def close(self):
        self.loop.close()

    def clock(self):
        return self.loop.now

    def pending(self):
        """The names of the tasks that are not done, in the order in which they were made."""
        return [task.name for task in self.loop.undone.values()]

    def queued(self):
        """Who each handle in the ready queue is, but for the cancelled ones."""
        return [handle.call.who() for handle in self.loop.ready if not handle.dropped]

    def times(self):
        """The times in the heap, as they stand there, and the count of cancelled ones."""
        return ([row[0] for row in self.loop.heap], self.loop.dropped_timers)

    def check_open(self):
        if self.loop.closed:
            raise Raised(CLOSED)

    def do_run(self, aim, turns):
        """A run for a future, or for none [11.1]; the fault of a callback that ended it, or None."""
        loop = self.loop
        end = RunEnd()
        if aim is not None:
            lay(loop, aim, end)
        how, fault = turns_done(loop, turns)
        loop.stopping = False
        if aim is not None:
            unlay(aim, end)
        if how == STUCK:
            raise Stuck("nothing will ever come")
        if how == BUSY:
            raise TooLong(turns)
        return fault


def turns_done(loop, turns):
    """Do turns up to so many; a tuple of how they ended, and the fault of a callback that ended them, or None."""
    for _ in range(turns):
        try:
            is_moving = loop.turn()
        except Thrown as e:
            return (STOPPED, e.fault)
        if not is_moving:
            return (STUCK, None)
        if loop.stopping:
            return (STOPPED, None)
    return (BUSY, None)
