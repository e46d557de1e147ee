"""Conditions [9.4]."""

from loopyard.activation import start_routine
from loopyard.faults import Fault, Thrown
from loopyard.lines import join_line, leave_line, wake_live
from loopyard.locks import Acquire
from loopyard.managers import Manager
from loopyard.signals import ENDS, ENTERS, FAILS, LEAVES, WAITS


class Condition(Manager):
    """A row of waiters that stands on a lock."""

    KIND = "Condition"

    def __init__(self, lock):
        Manager.__init__(self)
        self.lock = lock
        self.row = []

    def has(self, moment):
        return (self.lock, tuple(self.row))

    def enter(self, loop):
        return (ENTERS, Acquire(self.lock))

    def entered(self, value):
        return None

    def leave(self, loop, how, value):
        self.lock.set_free(loop)
        return (LEAVES, (how, value))

    def notify(self, loop, most):
        if not self.lock.held:
            raise Thrown(Fault("RuntimeError"))
        self.wake(loop, most)

    def notify_all(self, loop):
        self.notify(loop, len(self.row))

    def wake(self, loop, most):
        wake_live(loop, self.row, most, False)


class ConditionWait:
    """The coroutine of a wait for a condition: behind its wait it has the lock again, whatever comes."""

    def __init__(self, condition):
        self.condition = condition
        self.waiter = None
        self.is_woken = False
        self.fault = None

    def has(self, moment):
        return (self.condition, self.waiter, self.is_woken, self.fault)

    def start(self, loop):
        condition = self.condition
        condition.lock.set_free(loop)
        self.waiter = join_line(loop, condition.row)
        return (WAITS, self.waiter)

    def took(self, loop, value):
        if not self.is_woken:
            return self.take_lock()
        if self.fault is None:
            return (ENDS, True)
        # Who may have been woken hands it on ahead of any fault.
        self.condition.wake(loop, 1)
        return (FAILS, self.fault)

    def threw(self, loop, fault):
        """A CancelledError out of the wait, or out of taking the lock, which is tried again then."""
        self.fault = fault
        return self.take_lock()

    def take_lock(self):
        if not self.is_woken:
            self.is_woken = True
            leave_line(self.condition.row, self.waiter)
            self.waiter = None
        return (ENTERS, Acquire(self.condition.lock))


class ConditionUntil:
    """The coroutine of a wait until a routine gives what counts as true."""

    def __init__(self, condition, word, told):
        self.condition = condition
        self.word = word
        self.told = told
        self.is_asking = False

    def has(self, moment):
        """Its routine is called behind each wait, as a callback is."""
        return (self.condition, moment.common, self.word, tuple(self.told))

    def start(self, loop):
        self.is_asking = True
        return (ENTERS, start_routine(loop, self.word, self.told))

    def took(self, loop, value):
        if not self.is_asking:
            return self.start(loop)
        if value:
            return (ENDS, value)
        self.is_asking = False
        return (ENTERS, ConditionWait(self.condition))

    def threw(self, loop, fault):
        return (FAILS, fault)
