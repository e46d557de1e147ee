"""Queues [10]."""

import unittest

from loopyard.running import Life
from tests.helper import Case, asynced, catch, do, fault, let, main, report, said, say, sleep, start, tell, tell_await

FULL, EMPTY, SHUT = fault("QueueFull"), fault("QueueEmpty"), fault("QueueShutDown")
TYPE = fault("TypeError")
OWN = fault("CancelledError", "m")
KINDS = ("queue", "lifo_queue", "priority_queue")
PUTS = asynced(catch(("await", "v", ("put", "@Q", "@n")), say("put", "@n")), params=("n",))
GETS = asynced(catch(("await", "v", ("get", "@Q")), say("got", "@n", "@v")), params=("n",))
JOINS = asynced(catch(("await", "v", ("join", "@Q")), say("joined", "@v")))


def puts(*items):
    return [do("put_nowait", "@Q", item) for item in items]


def gets(many):
    return [tell("get_nowait", "@Q")] * many


class ItemsTest(Case):
    def order(self, kind, *items):
        return said(let("Q", kind), *puts(*items), *gets(len(items)))

    def test_which_item_it_gives(self):
        self.assertEqual([2, 3, 1], self.order("queue", 2, 3, 1))
        self.assertEqual([1, 3, 2], self.order("lifo_queue", 2, 3, 1))
        self.assertEqual([1, 2, 3], self.order("priority_queue", 2, 3, 1))

    def test_most(self):
        for kind in KINDS:
            for value in (None, True, "1", (1,)):
                self.assert_fault("TypeError", kind, value)
            for most in (0, -1):
                self.assert_said([None, None, False], let("Q", kind, most), tell("put_nowait", "@Q", 1),
                                 tell("put_nowait", "@Q", 2), tell("full", "@Q"))
            self.assert_said([False, None, False, None, True, FULL, 2], let("Q", kind, 2), tell("full", "@Q"),
                             tell("put_nowait", "@Q", 1), tell("full", "@Q"), tell("put_nowait", "@Q", 2),
                             tell("full", "@Q"), tell("put_nowait", "@Q", 3), tell("qsize", "@Q"))

    def test_sizes(self):
        self.assert_said([True, 0, EMPTY, False, 1, True, 0], let("Q", "queue"), tell("empty", "@Q"),
                         tell("qsize", "@Q"), tell("get_nowait", "@Q"), *puts(1), tell("empty", "@Q"),
                         tell("qsize", "@Q"), do("get_nowait", "@Q"), tell("empty", "@Q"), tell("qsize", "@Q"))

    def test_what_is_no_queue(self):
        calls = (("put", 1), ("get",), ("put_nowait", 1), ("get_nowait",), ("qsize",), ("empty",), ("full",),
                 ("task_done",), ("join",), ("shutdown",), ("shutdown", True))
        for op, *more in calls:
            for value in (None, 1, "x", ()):
                self.assert_fault("AttributeError", op, value, *more)
            for maker in (("lock",), ("future",), ("as_completed", ())):
                self.assert_fault("AttributeError", op, "@x", *more, before=(let("x", *maker),))

    def test_coroutines_that_are_never_awaited(self):
        for op, more in (("put", (1,)), ("get", ()), ("join", ())):
            told = report(let("q", "queue"), let("c", op, "@q", *more), say("@c"), tell("qsize", "@q"))
            self.assertEqual(["Coroutine-1", 0], [row[2] for row in told.log])
            self.assertEqual([(0, "coroutine was never awaited", op, None)], told.notes)


class WaitingTest(Case):
    def test_at_once(self):
        life = Life(main(let("q", "queue", 1), ("await", "v", ("put", "@q", 7)), ("await", "w", ("get", "@q")),
                         say("@v", "@w")), ("main",))
        life.turn()
        self.assertEqual([(0, "Task-1", None, 7)], life.log)

    def test_getters_in_order(self):
        self.assert_said([("got", 1, "a"), ("got", 2, "b")], let("Q", "queue"), start("t", "call", "gets", 1),
                         start("t", "call", "gets", 2), sleep(0), *puts("a", "b"), sleep(1), gets=GETS)

    def test_putters_in_order(self):
        self.assert_said(["x", ("put", "a"), "a", ("put", "b"), "b"], let("Q", "queue", 1), *puts("x"),
                         start("t", "call", "puts", "a"), start("t", "call", "puts", "b"), sleep(0), *gets(1), sleep(0),
                         *gets(1), sleep(1), *gets(1), puts=PUTS)

    def test_who_was_woken_but_finds_it_empty_waits_anew(self):
        self.assert_said(["a", ("got", 2, "b"), ("got", 1, "c")], let("Q", "queue"), start("t", "call", "gets", 1),
                         start("t", "call", "gets", 2), sleep(0), *puts("a"), *gets(1), sleep(0), *puts("b"), sleep(0),
                         *puts("c"), sleep(1), gets=GETS)

    def test_who_was_woken_but_finds_it_full_waits_anew(self):
        rows = said(let("Q", "queue", 1), *puts("x"), *[start("t", "call", "puts", n) for n in "abc"], sleep(0), *gets(1),
                    *puts("z"), sleep(0), *gets(1), sleep(0), sleep(0), *gets(1), sleep(0), sleep(0), *gets(1), sleep(0),
                    sleep(0), *gets(1), puts=PUTS)
        self.assertEqual(["x", "z", "b", "c", "a"], [row for row in rows if isinstance(row, str)])

    def test_a_task_that_is_woken_and_cancelled_hands_on(self):
        self.assert_said([OWN, ("got", 2, "a")], let("Q", "queue"), start("s", "call", "gets", 1),
                         start("t", "call", "gets", 2), sleep(0), *puts("a"), do("cancel", "@s", "m"), sleep(1), gets=GETS)
        self.assert_said(["x", OWN, ("put", "b"), "b"], let("Q", "queue", 1), *puts("x"), start("s", "call", "puts", "a"),
                         start("t", "call", "puts", "b"), sleep(0), *gets(1), do("cancel", "@s", "m"), sleep(1),
                         *gets(1), puts=PUTS)

    def test_it_does_not_hand_on_what_is_gone(self):
        life = Life(main(let("Q", "queue"), start("s", "call", "gets", 1), start("t", "call", "gets", 2), sleep(0),
                         *puts("a"), do("cancel", "@s", "m"), do("get_nowait", "@Q"), sleep(0), sleep(9), gets=GETS),
                    ("main",))
        for _ in range(4):
            life.turn()
        self.assertEqual([0], [waiter.state for waiter in life.loop.shared["Q"].getters])

    def test_a_task_that_is_cancelled_while_it_waits(self):
        life = Life(main(let("Q", "queue"), start("s", "call", "gets", 1), start("t", "call", "gets", 2), sleep(0),
                         do("cancel", "@s", "m"), sleep(0), sleep(0), *puts("a"), sleep(1), gets=GETS), ("main",))
        for _ in range(3):
            life.turn()
        self.assertEqual(1, len(life.loop.shared["Q"].getters))
        while life.turn():
            pass
        self.assertEqual([(0, "Task-2", OWN), (0, "Task-3", "got", 2, "a")], life.log)

    def test_those_that_are_cancelled_are_passed_over(self):
        self.assert_said([OWN, ("got", 2, "a")], let("Q", "queue"), start("s", "call", "gets", 1),
                         start("t", "call", "gets", 2), sleep(0), do("cancel", "@s", "m"), *puts("a"), sleep(1), gets=GETS)


class ShutdownTest(Case):
    def test_a_queue_that_was_shut_down(self):
        self.assert_said([None, SHUT, "a", SHUT, SHUT, SHUT, None], let("Q", "queue"), *puts("a"), tell("shutdown", "@Q"),
                         tell("put_nowait", "@Q", 1), *gets(2), tell_await("get", "@Q"), tell_await("put", "@Q", 1),
                         tell("shutdown", "@Q"))
        self.assert_said([SHUT], let("Q", "queue", 1), *puts("a"), do("shutdown", "@Q"), tell_await("put", "@Q", 1))
        self.assert_said([SHUT], let("Q", "queue", 1), *puts("a"), do("shutdown", "@Q"), tell("put_nowait", "@Q", 1))
        self.assert_said(["a"], let("Q", "queue"), *puts("a"), do("shutdown", "@Q"), tell_await("get", "@Q"))

    def test_at_once(self):
        for value in (True, 1, "x", (0,)):
            self.assert_said([None, 0, SHUT], let("Q", "queue"), *puts("a", "b"), tell("shutdown", "@Q", value),
                             tell("qsize", "@Q"), tell("get_nowait", "@Q"))
        for value in (False, 0, "", (), None):
            self.assert_said([None, 2], let("Q", "queue"), *puts("a", "b"), tell("shutdown", "@Q", value),
                             tell("qsize", "@Q"))

    def test_all_that_wait_go_on(self):
        self.assert_said([SHUT, SHUT], let("Q", "queue"), start("s", "call", "gets", 1), start("t", "call", "gets", 2),
                         sleep(0), do("shutdown", "@Q"), sleep(1), gets=GETS)
        self.assert_said([SHUT, SHUT], let("Q", "queue", 1), *puts("x"), start("s", "call", "puts", 1),
                         start("t", "call", "puts", 2), sleep(0), do("shutdown", "@Q"), sleep(1), puts=PUTS)
        self.assert_said([("joined", None), SHUT], let("Q", "queue", 1), *puts("x"), start("s", "call", "puts", 1),
                         start("t", "call", "joins"), sleep(0), do("shutdown", "@Q", True), sleep(1), puts=PUTS,
                         joins=JOINS)

    def test_unfinished_items(self):
        value = fault("ValueError")
        self.assert_said([value], let("Q", "queue"), *puts("a", "b"), do("shutdown", "@Q", True), tell("task_done", "@Q"))
        self.assert_said([None, value], let("Q", "queue"), *puts("a", "b"), do("get_nowait", "@Q"),
                         do("shutdown", "@Q", True), tell("task_done", "@Q"), tell("task_done", "@Q"))
        self.assert_said([None, None, value], let("Q", "queue"), *puts("a", "b"), do("shutdown", "@Q"),
                         tell("task_done", "@Q"), tell("task_done", "@Q"), tell("task_done", "@Q"))
        self.assert_said([value], let("Q", "queue"), *puts("a", "b"), do("task_done", "@Q"), do("task_done", "@Q"),
                         do("shutdown", "@Q", True), tell("task_done", "@Q"))


class PriorityTest(Case):
    def order(self, *items):
        return said(let("Q", "priority_queue"), *puts(*items), *gets(len(items)))

    def test_order(self):
        self.assertEqual([-1, 0, 2, 5, 9], self.order(5, 2, 9, -1, 0))
        self.assertEqual(["", "B", "a", "ab"], self.order("ab", "a", "B", ""))
        self.assertEqual([(), (0, "z"), (1,), (1, "a"), (1, "b")], self.order((1, "b"), (1,), (0, "z"), (1, "a"), ()))
        self.assertEqual([((1, 2), 0), ((1, 3), 0), ((2,), 0)], self.order(((2,), 0), ((1, 3), 0), ((1, 2), 0)))

    def test_bools_among_the_numbers(self):
        self.assertEqual([False, 1, 2], self.order(2, False, 1))
        rows = self.order((True, 2), (1, 1))
        self.assertEqual([(1, 1), (True, 2)], rows)

    def test_equal_parts_that_have_no_order(self):
        self.assert_said([(None, 1), (None, 2)], let("Q", "priority_queue"), *puts((None, 2), (None, 1)), *gets(2))
        self.assert_said([("Future-1", 1), ("Future-1", 2)], let("f", "future"), let("Q", "priority_queue"),
                         *puts(("@f", 2), ("@f", 1)), *gets(2))
        self.assert_said([TYPE], let("f", "future"), let("g", "future"), let("Q", "priority_queue"), *puts(("@f", 2)),
                         tell("put_nowait", "@Q", ("@g", 1)))

    def test_items_that_cannot_be_compared(self):
        for one, other in ((1, "a"), ("a", 1), (None, None), (1, None), ((1, "a"), (1, 2)), ((1,), 1), (("a",), "a")):
            self.assert_said([TYPE], let("Q", "priority_queue"), *puts(one), tell("put_nowait", "@Q", other))
        self.assert_said([TYPE], let("l", "lock"), let("Q", "priority_queue"), *puts(1), tell("put_nowait", "@Q", "@l"))

    def test_equal_items_by_the_moves_of_the_heap(self):
        self.assertEqual([1, True, 1, True], self.order(1, 1, True, True))
        rows = [type(value) for value in self.order(1, 1, True, True)]
        self.assertEqual([int, bool, int, bool], rows)

    def test_a_put_that_cannot_be_compared_stays_in_the_heap(self):
        self.assert_said([TYPE, 2, 1, "a"], let("Q", "priority_queue"), *puts(1), tell("put_nowait", "@Q", "a"),
                         tell("qsize", "@Q"), *gets(2))
        # Unfinished is not raised, and no getter is woken.
        self.assert_said([TYPE, None, fault("ValueError")], let("Q", "priority_queue"), *puts(1),
                         tell("put_nowait", "@Q", "a"), tell("task_done", "@Q"), tell("task_done", "@Q"))

    def test_a_put_that_has_come_some_way(self):
        # 0 rises above 2, where it meets "a" at the top: it stays at place 1.
        life = Life(main(let("Q", "priority_queue"), *puts(1, 2, 3), sleep(0), sleep(0), catch(*puts(0))), ("main",))
        life.turn()
        queue = life.loop.shared["Q"]
        queue.rows[0] = "a"
        life.turn()
        life.turn()
        self.assertEqual([(0, "Task-1", TYPE)], life.log)
        self.assertEqual(["a", 0, 3, 2], queue.rows)
        self.assertEqual(3, queue.unfinished)

    def test_a_get_that_cannot_be_compared_loses_the_item(self):
        steps = (let("Q", "priority_queue"), *puts(1, 2), catch(*puts("a"), then=()))
        self.assert_said([3, TYPE, 2, "a"], *steps, tell("qsize", "@Q"), *gets(3))
        steps = (let("Q", "priority_queue"), *puts(1, 2, 3), catch(*puts("a"), then=()))
        self.assert_said([4, TYPE, 3, TYPE], *steps, tell("qsize", "@Q"), *gets(1), tell("qsize", "@Q"), *gets(1))

    def test_a_get_that_fails_wakes_no_putter(self):
        told = report(let("Q", "priority_queue", 4), *puts(1, 2, 3), catch(*puts("a"), then=()),
                      start("t", "call", "puts", 9), sleep(0), *gets(1), sleep(1), say("end"), puts=PUTS)
        self.assertEqual([TYPE, "end"], [row[2] for row in told.log][:2])

    def test_a_shutdown_that_fails(self):
        told = report(let("Q", "priority_queue"), *puts(1, 2, 3), catch(*puts("a"), then=()),
                      start("t", "call", "joins"), sleep(0), tell("shutdown", "@Q", True), tell("put_nowait", "@Q", 1),
                      tell("qsize", "@Q"), *[tell("task_done", "@Q")] * 4, sleep(1), say("end"), joins=JOINS)
        self.assertEqual([(TYPE,), (SHUT,), (3,), (None,), (None,), (None,), (fault("ValueError"),), ("joined", None),
                          ("end",)], [row[2:] for row in told.log])


class JoinTest(Case):
    def test_nothing_unfinished(self):
        life = Life(main(let("q", "queue"), ("await", "v", ("join", "@q")), say("@v")), ("main",))
        life.turn()
        self.assertEqual([(0, "Task-1", None)], life.log)

    def test_task_done(self):
        self.assert_said([fault("ValueError"), None, fault("ValueError")], let("Q", "queue"), tell("task_done", "@Q"),
                         *puts(1), tell("task_done", "@Q"), tell("task_done", "@Q"))

    def test_those_that_join_go_on_when_nothing_is_unfinished(self):
        self.assert_said(["one", "two", ("joined", None), ("joined", None)], let("Q", "queue"), *puts(1, 2),
                         start("s", "call", "joins"), start("t", "call", "joins"), sleep(1), do("task_done", "@Q"), sleep(1),
                         say("one"), do("task_done", "@Q"), say("two"), sleep(1), joins=JOINS)

    def test_it_waits_once(self):
        self.assert_said([("joined", None), "end"], let("Q", "queue"), *puts(1), start("t", "call", "joins"), sleep(0),
                         do("task_done", "@Q"), *puts(2), sleep(1), say("end"), joins=JOINS)

    def test_one_that_is_cancelled(self):
        life = Life(main(let("Q", "queue"), *puts(1), start("t", "call", "joins"), sleep(0), do("cancel", "@t", "m"),
                         sleep(9), joins=JOINS), ("main",))
        for _ in range(3):
            life.turn()
        self.assertEqual([(0, "Task-2", OWN)], life.log)
        self.assertEqual([], life.loop.shared["Q"].joiners)


if __name__ == "__main__":
    unittest.main()
