"""Sleeping, and waiting for several things or for one thing for a time [7.2, 7.3, 7.8, 7.9]."""

from loopyard.checks import need, need_tuple, need_whole, need_whole_or_none
from loopyard.coroutines import awaiting
from loopyard.faults import Fault, Thrown, is_cancel
from loopyard.futures import Release, ask, cancel, is_done, lay, new_future, release, see, unlay
from loopyard.signals import ENDS, ENTERS, FAILS, FAULT, NORMAL, PAUSES, WAITS
from loopyard.tasks import as_future
from loopyard.things import CANCELLED, Future
from loopyard.timeouts import Timeout

UNTILS = ("ALL_COMPLETED", "FIRST_COMPLETED", "FIRST_EXCEPTION")


class Sleep:
    """The coroutine of a sleep."""

    def __init__(self, delay, result):
        self.delay = delay
        self.result = result
        self.timer = None

    def has(self, moment):
        return (self.delay, self.result, self.timer)

    def start(self, loop):
        delay = self.delay
        need_whole(delay)
        # From now on the timer alone tells how long it takes.
        self.delay = None
        if delay <= 0:
            return (PAUSES, None)
        waiter = new_future(loop)
        self.timer = loop.timer_at(loop.now + delay, Release(waiter, self.result))
        return (WAITS, waiter)

    def took(self, loop, value):
        self.drop_timer(loop)
        return (ENDS, self.result)

    def threw(self, loop, fault):
        self.drop_timer(loop)
        return (FAILS, fault)

    def drop_timer(self, loop):
        if self.timer is not None:
            loop.drop(self.timer)


class Wait:
    """The coroutine of a wait; it lays itself to the futures that it watches, and counts them."""

    def __init__(self, things, timeout, until):
        self.things = things
        self.timeout = timeout
        self.until = until
        self.watched = []
        self.left = 0
        self.waiter = None
        self.timer = None

    def has(self, moment):
        asked = (self.things, self.timeout, self.until)
        return (asked, tuple(self.watched), self.left, self.waiter, self.timer)

    def start(self, loop):
        things, timeout = self.things, self.timeout
        need_tuple(things)
        need(len(things) > 0, "ValueError")
        need(isinstance(self.until, str) and self.until in UNTILS, "ValueError")
        need(all([isinstance(thing, Future) for thing in things]), "TypeError")
        need_whole_or_none(timeout)
        # What it was asked for is told from now on by what it watches, and by its timer.
        self.things, self.timeout = None, None
        self.watched = list({thing: True for thing in things})
        self.left = len(self.watched)
        self.waiter = new_future(loop)
        if timeout is not None:
            self.timer = loop.timer_at(loop.now + timeout, Release(self.waiter))
        for future in self.watched:
            lay(loop, future, self)
        return (WAITS, self.waiter)

    def who(self):
        return "wait"

    def does(self, moment):
        return ("wait", self)

    def fire(self, loop, given):
        self.left -= 1
        if self.left <= 0 or self.until == "FIRST_COMPLETED" or self.is_exception(loop, given):
            self.drop_timer(loop)
            release(loop, self.waiter, None)

    def is_exception(self, loop, future):
        if self.until != "FIRST_EXCEPTION" or future.state == CANCELLED:
            return False
        see(loop, future)
        return future.fault is not None

    def drop_timer(self, loop):
        if self.timer is not None:
            loop.drop(self.timer)

    def clean_up(self, loop):
        self.drop_timer(loop)
        for future in self.watched:
            unlay(future, self)

    def took(self, loop, value):
        self.clean_up(loop)
        done = [future for future in self.watched if is_done(future)]
        others = [future for future in self.watched if not is_done(future)]
        return (ENDS, (tuple(done), tuple(others)))

    def threw(self, loop, fault):
        self.clean_up(loop)
        return (FAILS, fault)


class WaitFor:
    """The coroutine of a wait_for: what it does hangs on its timeout."""

    def __init__(self, thing, timeout):
        self.thing = thing
        self.timeout = timeout

    def has(self, moment):
        return (self.thing, self.timeout)

    def start(self, loop):
        thing, timeout = self.thing, self.timeout
        need_whole_or_none(timeout)
        # What it enters has both from now on.
        self.thing, self.timeout = None, None
        if timeout is None:
            return (ENTERS, TimedBlock(thing, Timeout(None)))
        if timeout <= 0:
            return (ENTERS, CancelAndWait(thing))
        return (ENTERS, TimedBlock(thing, Timeout(loop.now + timeout)))

    def took(self, loop, value):
        return (ENDS, value)

    def threw(self, loop, fault):
        return (FAILS, fault)


class CancelAndWait:
    """A wait_for without any time: what is not done is cancelled."""

    def __init__(self, thing):
        self.thing = thing
        self.future = None
        self.callback = None

    def has(self, moment):
        """It is begun in the step in which it is made, and waits for what its callback releases."""
        return (self.future, self.callback.does(moment))

    def start(self, loop):
        self.future = as_future(loop, self.thing)
        if is_done(self.future):
            return (ENDS, ask(loop, self.future))
        waiter = new_future(loop)
        self.callback = Release(waiter)
        lay(loop, self.future, self.callback)
        cancel(loop, self.future, None)
        return (WAITS, waiter)

    def took(self, loop, value):
        unlay(self.future, self.callback)
        try:
            return (ENDS, ask(loop, self.future))
        except Thrown as e:
            if is_cancel(e.fault):
                return (FAILS, Fault("TimeoutError"))
            return (FAILS, e.fault)

    def threw(self, loop, fault):
        unlay(self.future, self.callback)
        return (FAILS, fault)


class TimedBlock:
    """A wait_for with a time, or without an end: a block within a Timeout."""

    def __init__(self, thing, timeout):
        self.thing = thing
        self.timeout = timeout

    def has(self, moment):
        """It is begun in the step in which it is made; its task, or what that carries out, has the thing."""
        return (self.timeout,)

    def start(self, loop):
        self.timeout.enter(loop)
        try:
            return awaiting(loop, self.thing)
        except Thrown as e:
            return self.threw(loop, e.fault)

    def took(self, loop, value):
        self.timeout.leave(loop, NORMAL, None)
        return (ENDS, value)

    def threw(self, loop, fault):
        self.timeout.leave(loop, FAULT, fault)
        return (FAILS, fault)
