"""Timeouts: blocks for which a task is cancelled when their time has come [7.10]."""

from loopyard.faults import Fault, Thrown, is_cancel
from loopyard.futures import cancel
from loopyard.managers import Manager
from loopyard.signals import ENDS, FAULT, LEAVES
from loopyard.tasks import uncancel

NEW = 0
ENTERED = 1
EXPIRING = 2
EXPIRED = 3
FINISHED = 4


class Timeout(Manager):
    """A block's time, the task that entered it, and how many requests were open then."""

    KIND = "Timeout"

    def __init__(self, due):
        Manager.__init__(self)
        self.due = due
        self.state = NEW
        self.task = None
        self.noted = 0
        self.handle = None

    def has(self, moment):
        due = moment.time_of(self.due, self.state == NEW or self.handle is not None)
        return (self.state, self.task, self.noted, self.handle, due)

    def who(self):
        return "timeout"

    def does(self, moment):
        return ("timeout", self)

    def enter(self, loop):
        if self.state != NEW:
            raise Thrown(Fault("RuntimeError"))
        self.state = ENTERED
        self.task = loop.current
        self.noted = self.task.requests
        self.set_due(loop, self.due)
        return (ENDS, self)

    def set_due(self, loop, due):
        self.due = due
        self.drop_handle(loop)
        if due is None:
            return
        if due <= loop.now:
            self.handle = loop.soon(self)
        else:
            self.handle = loop.timer_at(due, self)

    def drop_handle(self, loop):
        if self.handle is not None:
            loop.drop(self.handle)
            self.handle = None

    def fire(self, loop, given):
        cancel(loop, self.task, None)
        self.state = EXPIRING
        self.handle = None

    def leave(self, loop, how, value):
        self.drop_handle(loop)
        if self.state == ENTERED:
            self.state = FINISHED
            return (LEAVES, (how, value))
        self.state = EXPIRED
        left = uncancel(self.task)
        if left <= self.noted and how == FAULT and is_cancel(value):
            raise Thrown(Fault("TimeoutError"))
        return (LEAVES, (how, value))

    def is_expired(self):
        return self.state == EXPIRING or self.state == EXPIRED
