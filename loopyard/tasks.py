"""Tasks: making them, and carrying out their steps [5.7, 5.8, 6]."""

from loopyard.coroutines import use_up
from loopyard.faults import Fault, Thrown, is_cancel, is_exit
from loopyard.futures import cancel, cancelled_fault, give_cancelled, give_fault, give_value, lay, outcome
from loopyard.machine import BEGIN, carry
from loopyard.signals import ENDS, FAILS, PAUSES, THREW, TOOK
from loopyard.things import Coroutine, Future, Task


def make_task(loop, coroutine, name=None):
    """A new task; its first step is put into the ready queue."""
    if name is None:
        loop.unnamed += 1
        name = f"Task-{loop.unnamed}"
    task = Task(loop.next_serial(), name, coroutine)
    loop.undone[task.serial] = task
    loop.soon(Step(task, TOOK, None))
    return task


def as_future(loop, value):
    """A future as it is, and a new task for a coroutine [5.7]."""
    if isinstance(value, Future):
        return value
    if not isinstance(value, Coroutine):
        raise Thrown(Fault("TypeError"))
    return make_task(loop, value)


def uncancel(task):
    """Take one request back; how many are open then [6.4]."""
    if task.requests > 0:
        task.requests -= 1
        if task.requests == 0:
            task.marked = False
    return task.requests


def do_step(loop, task, deed, worth):
    """A step of a task that goes on with this."""
    if task.marked:
        task.marked = False
        if deed != THREW or not is_cancel(worth):
            deed, worth = THREW, cancelled_fault(task)
    task.waits = None
    loop.current = task
    try:
        signal, found = carry_task(loop, task, deed, worth)
        settle(loop, task, signal, found)
    finally:
        loop.current = None


def carry_task(loop, task, deed, worth):
    if task.begun:
        return carry(loop, task.stack, deed, worth)
    task.begun = True
    coroutine = task.coroutine
    if not coroutine.fresh:
        return (FAILS, Fault("RuntimeError"))
    use_up(loop, coroutine)
    if deed == THREW:
        return (FAILS, worth)
    task.stack.append(coroutine.carrier)
    return carry(loop, task.stack, BEGIN, None)


def settle(loop, task, signal, found):
    """What a task does behind its step [5.8]."""
    if signal == PAUSES:
        loop.soon(Step(task, TOOK, None))
    elif signal == FAILS:
        end_with_fault(loop, task, found)
    elif signal != ENDS:
        wait_on_future(loop, task, found)
    elif task.marked:
        task.marked = False
        give_cancelled(loop, task, task.message)
    else:
        give_value(loop, task, found)


def wait_on_future(loop, task, future):
    if future == task:
        loop.soon(Step(task, THREW, Fault("RuntimeError")))
        return
    lay(loop, future, Wakeup(task))
    task.waits = future
    if task.marked and cancel(loop, future, task.message):
        task.marked = False


def end_with_fault(loop, task, fault):
    if is_cancel(fault):
        task.kept = fault
        give_cancelled(loop, task, None)
        return
    give_fault(loop, task, fault)
    if is_exit(fault):
        raise Thrown(fault)


class Step:
    """A callback: the next step of a task."""

    def __init__(self, task, deed, worth):
        self.task = task
        self.deed = deed
        self.worth = worth

    def who(self):
        return self.task.name

    def does(self, moment):
        return ("step", self.task, self.deed, self.worth)

    def fire(self, loop, given):
        do_step(loop, self.task, self.deed, self.worth)


class Wakeup:
    """A callback: the next step of a task behind a future that it awaited."""

    def __init__(self, task):
        self.task = task

    def who(self):
        return self.task.name

    def does(self, moment):
        return ("wakeup", self.task)

    def fire(self, loop, given):
        deed, worth = outcome(loop, given)
        do_step(loop, self.task, deed, worth)
