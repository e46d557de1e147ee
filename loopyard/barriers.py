"""Barriers [9.6]."""

from loopyard.conditions import Condition, ConditionWait
from loopyard.faults import Fault
from loopyard.locks import Acquire, Lock
from loopyard.managers import Manager
from loopyard.signals import ENDS, ENTERS, FAILS

FILLING = 0
DRAINING = 1
RESETTING = 2
BROKEN = 3

# What the wait of a barrier does.
TAKING = 0
BLOCKED = 1
WITHIN = 2


class Barrier(Manager):
    """It lets tasks go on when so many are there."""

    KIND = "Barrier"

    def __init__(self, parties):
        Manager.__init__(self)
        self.parties = parties
        self.state = FILLING
        self.inside = 0
        self.condition = Condition(Lock())

    def has(self, moment):
        return (self.parties, self.state, self.inside, self.condition)

    def enter(self, loop):
        return (ENTERS, BarrierWait(self))

    def change(self, loop, state):
        self.state = state
        self.condition.notify_all(loop)

    def go_out(self, loop):
        self.inside -= 1
        if self.inside == 0:
            if self.state == DRAINING or self.state == RESETTING:
                self.state = FILLING
            self.condition.notify_all(loop)

    def set_free(self, loop):
        self.condition.lock.set_free(loop)


class BarrierWait:
    """The coroutine of a wait at a barrier."""

    def __init__(self, barrier):
        self.barrier = barrier
        self.stage = TAKING
        self.index = 0

    def has(self, moment):
        return (self.barrier, self.stage, self.index)

    def start(self, loop):
        return (ENTERS, Acquire(self.barrier.condition.lock))

    def took(self, loop, value):
        if self.stage == WITHIN:
            return self.wait_within(loop)
        return self.come_in(loop)

    def threw(self, loop, fault):
        if self.stage == WITHIN:
            self.barrier.go_out(loop)
        if self.stage != TAKING:
            self.barrier.set_free(loop)
        return (FAILS, fault)

    def come_in(self, loop):
        barrier = self.barrier
        self.stage = BLOCKED
        if barrier.state == DRAINING or barrier.state == RESETTING:
            return (ENTERS, ConditionWait(barrier.condition))
        if barrier.state == BROKEN:
            return self.threw(loop, Fault("BrokenBarrierError"))
        self.stage = WITHIN
        self.index = barrier.inside
        barrier.inside += 1
        if self.index + 1 == barrier.parties:
            barrier.change(loop, DRAINING)
            return self.go_on(loop)
        return self.wait_within(loop)

    def wait_within(self, loop):
        barrier = self.barrier
        if barrier.state == FILLING:
            return (ENTERS, ConditionWait(barrier.condition))
        if barrier.state != DRAINING:
            return self.threw(loop, Fault("BrokenBarrierError"))
        return self.go_on(loop)

    def go_on(self, loop):
        self.barrier.go_out(loop)
        self.barrier.set_free(loop)
        return (ENDS, self.index)


class BarrierChange:
    """The coroutine of a reset or an abort of a barrier."""

    def __init__(self, barrier, breaks):
        self.barrier = barrier
        self.breaks = breaks

    def has(self, moment):
        return (self.barrier, self.breaks)

    def start(self, loop):
        return (ENTERS, Acquire(self.barrier.condition.lock))

    def took(self, loop, value):
        barrier = self.barrier
        if self.breaks:
            barrier.change(loop, BROKEN)
        elif barrier.inside > 0:
            barrier.change(loop, RESETTING)
        else:
            barrier.change(loop, FILLING)
        barrier.set_free(loop)
        return (ENDS, None)

    def threw(self, loop, fault):
        return (FAILS, fault)
