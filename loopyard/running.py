"""Running a program as asyncio.run does, at once or turn by turn [11, 12.1]."""

from loopyard.coroutines import new_coroutine
from loopyard.errors import Stuck
from loopyard.faults import Thrown
from loopyard.futures import cancel, lay, new_future, release, see, unlay
from loopyard.loop import Loop
from loopyard.program import check_life
from loopyard.runs import RunEnd, check_loop_values, check_whole_from_1, outcome_of_run, task_of_call
from loopyard.signals import ENDS
from loopyard.tasks import make_task
from loopyard.things import CANCELLED

MAIN = 0
CANCELLING = 1
FIRST_END = 2
SECOND_END = 3
OVER = 4

SHUTDOWN_MESSAGE = "unhandled exception during asyncio.run() shutdown"


class Nothing:
    """The coroutine of the small tasks behind main: it does nothing."""

    def has(self, moment):
        return ()

    def start(self, loop):
        return (ENDS, None)


class Gone:
    """The callback at tasks that are cancelled behind main: the last one lets the run end [11.3]."""

    def __init__(self, tasks, future):
        self.tasks = tasks
        self.left = len(tasks)
        self.future = future

    def has(self, moment):
        return (tuple(self.tasks), self.left, self.future)

    def who(self):
        return "shutdown"

    def does(self, moment):
        return ("gone", self)

    def fire(self, loop, given):
        self.left -= 1
        if self.left == 0:
            for task in self.tasks:
                see(loop, task)
            release(loop, self.future, None)


class Life:
    """What run does, turn by turn. It stands ahead of its first turn at first."""

    def __init__(self, program, call, *, debug=False, slow=100):
        check_life(program, call)
        check_loop_values(debug, slow)
        loop = Loop(program, debug, slow)
        self.main = task_of_call(loop, call)
        self.loop = loop
        self.phase = MAIN
        self.run_end = RunEnd()
        self.aim = None
        self.leaving = []
        self.came_out = None
        self.log = loop.log
        self.notes = loop.notes
        self.turns = 0

    def has(self, moment):
        """All that its further course hangs on [12.2]; the tasks that were cancelled matter until they are told."""
        leaving = ()
        if self.phase == CANCELLING:
            leaving = tuple(self.leaving)
        return ((self.phase, self.aim is None), *self.loop.has(moment), (self.came_out, leaving))

    def is_over(self):
        return self.phase == OVER

    def is_stuck(self):
        """Whether the next turn would find the loop stuck; ahead of a run there is always something to do."""
        return not self.is_over() and self.aim is not None and self.loop.is_stuck()

    def turn(self):
        """The next turn; whether there is a further one."""
        if self.is_over():
            return False
        if self.aim is None:
            self.begin_run()
        loop = self.loop
        fault = None
        try:
            is_moving = loop.turn()
        except Thrown as e:
            is_moving = True
            fault = e.fault
        if not is_moving:
            raise Stuck("nothing will ever come")
        self.turns += 1
        if fault is not None or loop.stopping:
            self.end_run(fault)
        return not self.is_over()

    def pending(self):
        return [task.name for task in self.loop.undone.values()]

    def begin_run(self):
        """What run does ahead of the run of this phase: the future for which it is [11.3]."""
        loop = self.loop
        if self.phase == MAIN:
            self.aim = self.main
        elif self.phase == CANCELLING:
            self.cancel_all()
        else:
            self.aim = make_task(loop, new_coroutine(loop, "nothing", Nothing()))
        lay(loop, self.aim, self.run_end)

    def cancel_all(self):
        loop = self.loop
        self.leaving = list(loop.undone.values())
        for task in self.leaving:
            cancel(loop, task, None)
        self.aim = new_future(loop)
        gone = Gone(self.leaving, self.aim)
        for task in self.leaving:
            lay(loop, task, gone)

    def end_run(self, fault):
        """What comes out of the run that has ended [11.2], and what follows from it."""
        loop, aim = self.loop, self.aim
        loop.stopping = False
        unlay(aim, self.run_end)
        self.aim = None
        end = outcome_of_run(loop, aim, fault)
        if self.phase == MAIN:
            self.came_out = end
            self.phase = CANCELLING if loop.undone else FIRST_END
        elif end[1] is not None:
            self.end_early(end)
        elif self.phase == CANCELLING:
            self.phase = FIRST_END
            self.report_leaving()
        elif self.phase == FIRST_END:
            self.phase = SECOND_END
        else:
            self.end_early(self.came_out)

    def end_early(self, end):
        """Close the loop; a fault that came out of a run behind main is the outcome."""
        self.came_out = end
        self.phase = OVER
        self.loop.close()

    def report_leaving(self):
        loop = self.loop
        try:
            for task in self.leaving:
                if task.state != CANCELLED and task.fault is not None:
                    loop.report(SHUTDOWN_MESSAGE, task.fault, task.name)
        except Thrown as e:
            self.end_early((None, e.fault))


class Report:
    """What a run has told."""

    def __init__(self, life, outcome):
        loop = life.loop
        self.outcome = outcome
        self.log = loop.log
        self.notes = loop.notes
        self.now = loop.now
        self.turns = life.turns
        self.waiting = [(task.name, loop.show(task.waits)) for task in loop.undone.values()]


def shown_outcome(life):
    value, fault = life.came_out
    if fault is not None:
        return ("fault", life.loop.show(fault))
    return ("value", life.loop.show(value))


def run(program, call, *, debug=False, slow=100, turns=2000):
    """Carry a program out as asyncio.run does, in so many turns at most."""
    life = Life(program, call, debug=debug, slow=slow)
    check_whole_from_1(turns)
    try:
        while life.turns < turns:
            if not life.turn():
                return Report(life, shown_outcome(life))
    except Stuck:
        return Report(life, ("stuck",))
    return Report(life, ("busy",))
