"""Locks and events [9.2, 9.3, 9.7]."""

from loopyard.faults import Fault, Thrown, is_cancel
from loopyard.futures import release
from loopyard.lines import join_line, leave_line, wake_live
from loopyard.managers import Manager
from loopyard.signals import ENDS, ENTERS, FAILS, LEAVES, WAITS
from loopyard.things import CANCELLED, Thing


class Lock(Manager):
    """It is held by one at a time; who comes meanwhile waits in its row."""

    KIND = "Lock"

    def __init__(self):
        Manager.__init__(self)
        self.held = False
        self.row = []

    def has(self, moment):
        return (self.held, tuple(self.row))

    def enter(self, loop):
        return (ENTERS, Acquire(self))

    def entered(self, value):
        return None

    def leave(self, loop, how, value):
        self.set_free(loop)
        return (LEAVES, (how, value))

    def set_free(self, loop):
        if not self.held:
            raise Thrown(Fault("RuntimeError"))
        self.held = False
        self.wake_first(loop)

    def wake_first(self, loop):
        """The waiter at the head of the row; if that one is done, nobody behind it is woken."""
        if self.row:
            release(loop, self.row[0], True)

    def must_wait(self):
        return self.held or any([waiter.state != CANCELLED for waiter in self.row])


class Acquire:
    """The coroutine of an acquire of a lock."""

    def __init__(self, lock):
        self.lock = lock
        self.waiter = None

    def has(self, moment):
        return (self.lock, self.waiter)

    def start(self, loop):
        lock = self.lock
        if not lock.must_wait():
            lock.held = True
            return (ENDS, True)
        self.waiter = join_line(loop, lock.row)
        return (WAITS, self.waiter)

    def took(self, loop, value):
        lock = self.lock
        leave_line(lock.row, self.waiter)
        lock.held = True
        return (ENDS, True)

    def threw(self, loop, fault):
        lock = self.lock
        leave_line(lock.row, self.waiter)
        if is_cancel(fault) and not lock.held:
            lock.wake_first(loop)
        return (FAILS, fault)


class Event(Thing):
    """Tasks wait until it is set."""

    KIND = "Event"

    def __init__(self):
        Thing.__init__(self)
        self.is_on = False
        self.row = []

    def has(self, moment):
        return (self.is_on, tuple(self.row))

    def turn_on(self, loop):
        if not self.is_on:
            self.is_on = True
            wake_live(loop, self.row, len(self.row), True)


class EventWait:
    """The coroutine of a wait for an event."""

    def __init__(self, event):
        self.event = event
        self.waiter = None

    def has(self, moment):
        return (self.event, self.waiter)

    def start(self, loop):
        if self.event.is_on:
            return (ENDS, True)
        self.waiter = join_line(loop, self.event.row)
        return (WAITS, self.waiter)

    def took(self, loop, value):
        leave_line(self.event.row, self.waiter)
        return (ENDS, True)

    def threw(self, loop, fault):
        leave_line(self.event.row, self.waiter)
        return (FAILS, fault)
