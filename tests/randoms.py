"""Programs that are drawn by lot, of nearly all ops; the same number gives the same program each time."""

import random

from loopyard.program import Program
from tests.helper import asynced, catch, do, let, plain, say, sleep

SHARED = (
    let("L", "lock"), let("C", "condition"), let("E", "event"), let("F", "future"), let("G", "future"), let("T", "current"),
)
LOCALS = (let("x", "it", 0), let("n", "it", 0), let("t", "it", "@T"), let("c", "sleep", 1), let("h", "it", 0), let("o", "it", 0))


class Lot:
    """Draws the parts of a program."""

    def __init__(self, number, more_ops=()):
        self.draw = random.Random(number)
        self.more_ops = tuple(more_ops)
        # Only main makes tasks of routines: else they would become twice as many in each turn.
        self.in_main = False

    def one(self, *things):
        return self.draw.choice(things)

    def value(self):
        return self.one(None, True, 0, 1, 2, "a", (), (1,), "@n", "@x", "@F")

    def delay(self):
        return self.one(0, 0, 1, 1, 2, 3, -1)

    def future(self):
        return self.one("@F", "@G", "@t", "@T", "@x")

    def awaitable(self):
        two = (self.future(), self.future())
        until = self.one("ALL_COMPLETED", "FIRST_COMPLETED", "FIRST_EXCEPTION")
        return self.one(
            ("sleep", self.delay()), ("sleep", self.delay(), self.value()), ("it", self.future()),
            ("wait", two, self.one(None, 1, 2), until), ("wait_for", self.one(self.future(), "@c"), self.one(None, 0, 1, 2)),
            ("gather", two, self.one(False, True)), ("shield", self.future()), ("acquire", self.one("@L", "@S", "@C")),
            ("wait_on", self.one("@E", "@C", "@B")), ("put", "@Q", self.value()), ("get", "@Q"), ("join", "@Q"),
            ("reset", "@B"), ("abort", "@B"), ("wait_until", "@C", "check"),
        )

    def call(self):
        return self.one(
            ("future",), ("set_result", self.future(), self.value()), ("cancel", self.future()), ("cancel", self.future(), "m"),
            ("result", self.future()), ("exception", self.future()), ("uncancel", "@t"), ("on_done", self.future(), "tell"),
            ("off_done", self.future(), "tell"), ("later", self.delay(), "tell", self.value()), ("soon", "sets"), ("cancel", "@h"),
            ("set", "@E"), ("clear", "@E"), ("notify", "@C"), ("release", self.one("@L", "@S", "@C")),
            ("put_nowait", "@Q", self.value()), ("get_nowait", "@Q"), ("task_done", "@Q"), ("shield", self.future()),
            ("gather", (self.future(), self.future()), True), ("spend", self.one(0, 1)), ("add", "@n", 1),
            ("reader", "src", "reads"), ("unread", "src"), ("read", "src"), ("handler", self.one("reports", None)),
            ("close", "@c"), *self.more_ops,
        )

    def coroutine(self):
        if self.in_main and self.draw.random() < 0.6:
            return let("c", "call", self.one("one", "two"), self.one(0, 1, "@n"))
        return let("c", *self.awaitable())

    def safe(self, *steps):
        return catch(*steps, then=self.one((), (say("@e"),), (let("z", "it", "@e"),)))

    def small_step(self):
        lot = self.draw.random()
        if lot < 0.15:
            return say(self.value())
        if lot < 0.4:
            return self.safe(("await", self.one(None, "x"), self.awaitable()))
        if lot < 0.5:
            return sleep(self.delay())
        if lot < 0.65:
            return self.safe(self.coroutine(), let(self.one("t", "T", "x"), "task", "@c"))
        if lot < 0.7:
            return self.safe(let(self.one("F", "G", "x"), "future"))
        return self.safe(let(self.one("x", "h", "n"), *self.call()))

    def step(self, depth):
        if depth == 0 or self.draw.random() < 0.6:
            return self.small_step()
        body, other = self.body(depth - 1), self.body(depth - 1)
        kinds = (self.one("CancelledError", "Exception", "BaseException"),)
        return self.one(
            ("if", self.one(("same", "@n", 1), ("it", "@x")), body, other),
            ("while", ("it", 1), (*body, sleep(self.delay()))), ("each", "k", self.one((1, 2), ("@F", 1)), body),
            ("try", body, ((kinds, "e", other),), self.body(0), self.body(0)),
            self.safe(("with", "o", ("timeout", self.one(1, 2, 3, None)), body)),
            self.safe(("with", None, ("it", self.one("@L", "@S", "@C", "@B")), body)),
            self.safe(("with", "g", ("group",), (self.coroutine(), self.safe(let("t", "start", "@g", "@c")), *body))),
            self.safe(let("y", "as_completed", (self.future(), self.future()), self.one(None, 2)),
                      (self.one("each", "async_each"), "q", "@y", (self.safe(("await", "x", ("it", "@q"))),))),
        )

    def body(self, depth):
        return tuple(self.step(depth) for _ in range(self.draw.randrange(4)))

    def routine(self):
        steps = (*LOCALS[:1], *LOCALS[2:], *self.body(2))
        if self.draw.random() < 0.5:
            steps = (*steps, ("while", ("it", 1), (*self.body(1), sleep(self.delay()))))
        return asynced(*steps, params=("n",))

    def main(self):
        self.in_main = True
        shared = (*SHARED, let("S", self.one("semaphore", "bounded"), self.one(0, 1, 2)), let("B", "barrier", self.one(1, 2)),
                  let("Q", self.one("queue", "lifo_queue", "priority_queue"), self.one(0, 1, 2)))
        steps = (*shared, *LOCALS, *self.body(2), *self.body(2))
        if self.draw.random() < 0.7:
            most = self.one(2, 3, 5)
            count = (let("n", "it", 0), ("while", ("it", 1), (let("n", "add", "@n", 1), ("if", ("same", "@n", most), (
                let("n", "it", 0),), ()), *self.body(2), sleep(self.delay()))))
            steps = (*steps, *count)
        self.in_main = False
        return asynced(*steps)

    def program(self):
        at, outside = 0, []
        for _ in range(self.draw.randrange(3)):
            at += self.draw.randrange(4)
            outside.append((at, "src", self.one(1, "v")))
        return Program({
            "main": self.main(), "one": self.routine(), "two": self.routine(), "tell": plain(say("@v"), params=("v",)),
            "sets": plain(catch(do("set_result", self.one("@F", "@G"), 1), then=())),
            "reads": plain(let("v", "read", "src"), say("@v")), "check": plain(("return", "@G")),
            "reports": plain(say("reported", "@m"), params=("m", "f", "w")),
        }, outside=tuple(outside))
