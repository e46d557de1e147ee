"""What as_completed gives: an Each, and its times [7.6, 7.7]."""

from loopyard.faults import Fault, Thrown
from loopyard.futures import ask, unlay
from loopyard.lines import give_up, join_line, wake_next
from loopyard.signals import ENDS, FAILS, WAITS
from loopyard.things import Thing


class Each(Thing):
    """Futures as they come: who is still awaited, what has come, and who waits for it."""

    KIND = "Each"

    def __init__(self, futures):
        Thing.__init__(self)
        self.open_ones = list(futures)
        self.ends = []
        self.getters = []
        self.left = len(futures)
        self.timer = None

    def has(self, moment):
        lines = (tuple(self.open_ones), tuple(self.ends), tuple(self.getters))
        return (lines, self.left, self.timer)

    def who(self):
        return "as_completed"

    def does(self, moment):
        return ("each", self)

    def fire(self, loop, given):
        """A future of it is done, or, if none is given, its time has come."""
        if given is None:
            self.run_out(loop)
        elif self.open_ones:
            self.open_ones.remove(given)
            self.put_end(loop, given)
            if not self.open_ones and self.timer is not None:
                loop.drop(self.timer)

    def run_out(self, loop):
        for future in list(self.open_ones):
            unlay(future, self)
            self.put_end(loop, None)
        self.open_ones = []

    def put_end(self, loop, end):
        self.ends.append(end)
        wake_next(loop, self.getters)


class Turn:
    """One time of an Each: it waits for the next end, and ends as this future, or with it."""

    def __init__(self, each, asks):
        self.each = each
        self.asks = asks
        self.waiter = None

    def has(self, moment):
        return (self.each, self.asks, self.waiter)

    def start(self, loop):
        each = self.each
        if not each.ends:
            self.waiter = join_line(loop, each.getters)
            return (WAITS, self.waiter)
        future = each.ends.pop(0)
        if future is None:
            raise Thrown(Fault("TimeoutError"))
        if self.asks:
            return (ENDS, ask(loop, future))
        return (ENDS, future)

    def took(self, loop, value):
        return self.start(loop)

    def threw(self, loop, fault):
        each = self.each
        give_up(loop, each.getters, self.waiter, not each.ends)
        return (FAILS, fault)
