"""Semaphores [9.5]."""

from loopyard.faults import Fault, Thrown, is_cancel
from loopyard.futures import is_done, release
from loopyard.lines import join_line, leave_line
from loopyard.managers import Manager
from loopyard.signals import ENDS, ENTERS, FAILS, LEAVES, WAITS
from loopyard.things import CANCELLED, VALUED


class Semaphore(Manager):
    """It has a value of which each that comes takes one; who finds nothing waits in its row."""

    KIND = "Semaphore"

    def __init__(self, value):
        Manager.__init__(self)
        self.value = value
        self.row = []

    def has(self, moment):
        return (self.value, tuple(self.row))

    def enter(self, loop):
        return (ENTERS, TakeOne(self))

    def entered(self, value):
        return None

    def leave(self, loop, how, value):
        self.give_back(loop)
        return (LEAVES, (how, value))

    def is_locked(self):
        return self.value == 0 or any([waiter.state != CANCELLED for waiter in self.row])

    def is_at_bound(self):
        """Whether nothing can be given back."""
        return False

    def give_back(self, loop):
        if self.is_at_bound():
            raise Thrown(Fault("ValueError"))
        self.value += 1
        self.wake_next(loop)

    def wake_next(self, loop):
        """Whether somebody was woken: one of the value is taken for this waiter already."""
        for waiter in list(self.row):
            if not is_done(waiter):
                self.value -= 1
                release(loop, waiter, True)
                return True
        return False

    def wake_many(self, loop):
        while self.value > 0 and self.wake_next(loop):
            pass


class BoundedSemaphore(Semaphore):
    """A semaphore of which the value does not become greater than it was at first."""

    KIND = "BoundedSemaphore"

    def __init__(self, value):
        Semaphore.__init__(self, value)
        self.bound = value

    def has(self, moment):
        return (self.value, tuple(self.row), self.bound)

    def is_at_bound(self):
        return self.value >= self.bound


class TakeOne:
    """The coroutine of an acquire of a semaphore."""

    def __init__(self, semaphore):
        self.semaphore = semaphore
        self.waiter = None

    def has(self, moment):
        return (self.semaphore, self.waiter)

    def start(self, loop):
        semaphore = self.semaphore
        if not semaphore.is_locked():
            semaphore.value -= 1
            return (ENDS, True)
        self.waiter = join_line(loop, semaphore.row)
        return (WAITS, self.waiter)

    def took(self, loop, value):
        leave_line(self.semaphore.row, self.waiter)
        self.semaphore.wake_many(loop)
        return (ENDS, True)

    def threw(self, loop, fault):
        semaphore = self.semaphore
        leave_line(semaphore.row, self.waiter)
        if is_cancel(fault) and self.waiter.state == VALUED:
            semaphore.value += 1
        semaphore.wake_many(loop)
        return (FAILS, fault)
