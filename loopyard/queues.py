"""Queues [10]."""

from loopyard.faults import Fault, Thrown
from loopyard.futures import new_future, release
from loopyard.lines import give_up, join_line, leave_line, wake_all, wake_next
from loopyard.moves import push, take_first
from loopyard.signals import ENDS, FAILS, WAITS
from loopyard.things import Thing
from loopyard.values import is_less

FIRST_OUT = 0
LAST_OUT = 1
LEAST_OUT = 2


class Queue(Thing):
    """Items, in the order of their kind of queue, and the lines of those that wait for it."""

    KIND = "Queue"

    def __init__(self, order, most):
        Thing.__init__(self)
        self.order = order
        self.most = most
        self.rows = []
        self.getters = []
        self.putters = []
        self.joiners = []
        self.unfinished = 0
        self.is_shut = False

    def has(self, moment):
        lines = (tuple(self.rows), tuple(self.getters), tuple(self.putters), tuple(self.joiners))
        return (self.order, self.most, lines, self.unfinished, self.is_shut)

    def is_empty(self):
        return not self.rows

    def is_full(self):
        return 0 < self.most <= len(self.rows)

    def add_item(self, item):
        if self.order == LEAST_OUT:
            push(self.rows, item, is_less)
        else:
            self.rows.append(item)

    def take_item(self):
        if self.order == FIRST_OUT:
            return self.rows.pop(0)
        if self.order == LAST_OUT:
            return self.rows.pop()
        return take_first(self.rows, is_less)

    def put_now(self, loop, item):
        if self.is_shut:
            raise Thrown(Fault("QueueShutDown"))
        if self.is_full():
            raise Thrown(Fault("QueueFull"))
        self.add_item(item)
        self.unfinished += 1
        wake_next(loop, self.getters)

    def get_now(self, loop):
        if self.is_empty():
            raise Thrown(Fault("QueueShutDown" if self.is_shut else "QueueEmpty"))
        item = self.take_item()
        wake_next(loop, self.putters)
        return item

    def shut(self, loop, at_once):
        self.is_shut = True
        if at_once:
            while self.rows:
                self.take_item()
                if self.unfinished > 0:
                    self.unfinished -= 1
            self.wake_joiners(loop)
        wake_all(loop, self.getters)
        wake_all(loop, self.putters)

    def finish_one(self, loop):
        if self.unfinished == 0:
            raise Thrown(Fault("ValueError"))
        self.unfinished -= 1
        self.wake_joiners(loop)

    def wake_joiners(self, loop):
        """Those that join go on when nothing is unfinished; each of them leaves its row by itself."""
        if self.unfinished == 0:
            for waiter in list(self.joiners):
                release(loop, waiter, True)


class Put:
    """The coroutine of a put."""

    def __init__(self, queue, item):
        self.queue = queue
        self.item = item
        self.waiter = None

    def has(self, moment):
        return (self.queue, self.item, self.waiter)

    def start(self, loop):
        queue = self.queue
        if not queue.is_full():
            return (ENDS, queue.put_now(loop, self.item))
        if queue.is_shut:
            raise Thrown(Fault("QueueShutDown"))
        self.waiter = join_line(loop, queue.putters)
        return (WAITS, self.waiter)

    def took(self, loop, value):
        return self.start(loop)

    def threw(self, loop, fault):
        queue = self.queue
        give_up(loop, queue.putters, self.waiter, queue.is_full())
        return (FAILS, fault)


class Get:
    """The coroutine of a get."""

    def __init__(self, queue):
        self.queue = queue
        self.waiter = None

    def has(self, moment):
        return (self.queue, self.waiter)

    def start(self, loop):
        queue = self.queue
        if not queue.is_empty():
            return (ENDS, queue.get_now(loop))
        if queue.is_shut:
            raise Thrown(Fault("QueueShutDown"))
        self.waiter = join_line(loop, queue.getters)
        return (WAITS, self.waiter)

    def took(self, loop, value):
        return self.start(loop)

    def threw(self, loop, fault):
        queue = self.queue
        give_up(loop, queue.getters, self.waiter, queue.is_empty())
        return (FAILS, fault)


class Join:
    """The coroutine of a join: it waits once."""

    def __init__(self, queue):
        self.queue = queue
        self.waiter = None

    def has(self, moment):
        return (self.queue, self.waiter)

    def start(self, loop):
        queue = self.queue
        if queue.unfinished == 0:
            return (ENDS, None)
        self.waiter = new_future(loop)
        queue.joiners.append(self.waiter)
        return (WAITS, self.waiter)

    def took(self, loop, value):
        leave_line(self.queue.joiners, self.waiter)
        return (ENDS, None)

    def threw(self, loop, fault):
        leave_line(self.queue.joiners, self.waiter)
        return (FAILS, fault)
