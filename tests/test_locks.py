"""Locks, events, conditions, semaphores, barriers [9]."""

import unittest

from loopyard.running import Life
from tests.helper import (
    Case, asynced, catch, do, fault, let, log, main, plain, report, said, say, sleep, start, tell, tell_await, wait,
)

CANCELLED = fault("CancelledError")
OWN = fault("CancelledError", "m")
RUNTIME = fault("RuntimeError")
TAKES = asynced(("with", None, ("it", "@X"), (say("in", "@n"), sleep("@d"), say("out", "@n"))), say("left", "@n"),
                params=("n", "d"))
TRIES = asynced(catch(("await", "v", ("acquire", "@X")), say("@n", "@v")), params=("n",))
NOTHING = (None, 1, "x", ())


class LockTest(Case):
    def test_held_and_free(self):
        self.assert_said([False, True, True, None, False], let("x", "lock"), tell("locked", "@x"),
                         tell_await("acquire", "@x"), tell("locked", "@x"), tell("release", "@x"), tell("locked", "@x"))

    def test_a_free_lock_is_acquired_at_once(self):
        life = Life(main(let("x", "lock"), wait("acquire", "@x"), say(1)), ("main",))
        life.turn()
        self.assertEqual(1, len(life.log))

    def test_in_the_order_in_which_waits_began(self):
        self.assertEqual([("in", 1), ("out", 1), ("left", 1), ("in", 2), ("out", 2), ("left", 2), ("in", 3)],
                         said(let("X", "lock"), *[start("t", "call", "takes", n, 1) for n in (1, 2, 3)], sleep(2),
                              sleep(0), takes=TAKES)[:7])

    def test_release_of_a_free_lock(self):
        self.assert_said([RUNTIME], let("x", "lock"), tell("release", "@x"))
        self.assert_said([None, RUNTIME], let("x", "lock"), wait("acquire", "@x"), tell("release", "@x"),
                         tell("release", "@x"))

    def test_anybody_may_release_it(self):
        self.assert_said([(1, True)], let("X", "lock"), wait("acquire", "@X"), start("t", "call", "tries", 1), sleep(0),
                         do("soon", "frees"), sleep(1), tries=TRIES, frees=plain(do("release", "@X")))

    def test_it_is_free_until_the_one_who_was_woken_goes_on(self):
        self.assert_said([False, (1, True), True, (2, True)], let("X", "lock"), wait("acquire", "@X"),
                         start("t", "call", "tries", 1), sleep(0), do("release", "@X"), tell("locked", "@X"),
                         start("t", "call", "tries", 2), sleep(0), tell("locked", "@X"), sleep(0), do("release", "@X"),
                         sleep(1), tries=TRIES)

    def test_who_comes_when_one_is_woken_joins_the_row(self):
        self.assert_said([(1, True), "mine"], let("X", "lock"), wait("acquire", "@X"), start("t", "call", "tries", 1),
                         sleep(0), do("release", "@X"), do("later", 3, "frees"), wait("acquire", "@X"), say("mine"),
                         tries=TRIES, frees=plain(do("release", "@X")))

    def test_it_is_taken_if_all_waiters_are_cancelled(self):
        life = Life(main(let("X", "lock"), wait("acquire", "@X"), start("t", "call", "tries", 1), sleep(0),
                         do("cancel", "@t"), do("release", "@X"), wait("acquire", "@X"), say("mine"), tries=TRIES),
                    ("main",))
        life.turn()
        life.turn()
        self.assertEqual([(0, "Task-1", "mine")], life.log)

    def test_one_at_the_head_that_is_done_is_not_passed_over(self):
        # The first waiter is cancelled, but still stands in its row: release wakes nobody, it hands on itself.
        life = Life(main(let("X", "lock"), wait("acquire", "@X"), start("s", "call", "tries", 1),
                         start("t", "call", "tries", 2), sleep(0), do("cancel", "@s"), do("release", "@X"),
                         let("R", "it", "@X"), sleep(3), tries=TRIES), ("main",))
        life.turn()
        life.turn()
        self.assertEqual([True, False], [waiter.state != 0 for waiter in life.loop.shared["X"].row])
        while life.turn():
            pass
        self.assertEqual([CANCELLED, (2, True)], [row[2:] if len(row) > 3 else row[2] for row in life.log])

    def test_a_task_that_is_woken_and_cancelled_hands_on(self):
        self.assert_said([OWN, (2, True)], let("X", "lock"), wait("acquire", "@X"), start("s", "call", "tries", 1),
                         start("t", "call", "tries", 2), sleep(0), do("release", "@X"), do("cancel", "@s", "m"),
                         sleep(1), tries=TRIES)

    def test_a_task_that_is_cancelled_while_the_lock_is_held_wakes_nobody(self):
        life = Life(main(let("X", "lock"), wait("acquire", "@X"), start("s", "call", "tries", 1),
                         start("t", "call", "tries", 2), sleep(0), do("cancel", "@s", "m"), sleep(0), sleep(0),
                         sleep(9), tries=TRIES), ("main",))
        for _ in range(5):
            life.turn()
        self.assertEqual([0], [waiter.state for waiter in life.loop.shared["X"].row])

    def test_nothing_before_it_is_awaited(self):
        self.assert_said([False], let("x", "lock"), let("c", "acquire", "@x"), tell("locked", "@x"), do("close", "@c"))

    def test_with(self):
        self.assert_said([True, None, False], let("x", "lock"),
                         ("with", "v", ("it", "@x"), (tell("locked", "@x"), say("@v"))), tell("locked", "@x"))
        odd = (let("f", "fault", "Odd"), ("raise", "@f"))
        self.assert_said([fault("Odd"), False], let("x", "lock"), catch(("with", None, ("it", "@x"), odd)),
                         tell("locked", "@x"))
        for body in ((), odd, (("return", 1),)):
            self.assert_said([RUNTIME], tell_await("call", "co"), co=asynced(
                let("x", "lock"), ("with", None, ("it", "@x"), (do("release", "@x"), *body))))

    def test_cancelled_while_it_enters(self):
        self.assert_said([CANCELLED, True], let("X", "lock"), wait("acquire", "@X"), start("t", "call", "co"), sleep(0),
                         do("cancel", "@t"), sleep(1), tell("locked", "@X"),
                         co=asynced(catch(("with", None, ("it", "@X"), (say("never"),)))))


class EventTest(Case):
    def test_set_and_clear(self):
        self.assert_said([False, None, True, None, True, None, False, None], let("x", "event"), tell("is_set", "@x"),
                         tell("set", "@x"), tell("is_set", "@x"), tell("set", "@x"), tell("is_set", "@x"),
                         tell("clear", "@x"), tell("is_set", "@x"), tell("clear", "@x"))

    def test_waiting(self):
        waits = asynced(("await", "v", ("wait_on", "@X")), say("@n", "@v"), params=("n",))
        self.assertEqual([(2, "Task-2", 1, True), (2, "Task-3", 2, True)],
                         log(let("X", "event"), start("t", "call", "waits", 1), start("t", "call", "waits", 2), sleep(2),
                             do("set", "@X"), sleep(1), waits=waits))
        self.assert_said([(1, True)], let("X", "event"), start("t", "call", "waits", 1), sleep(0), do("set", "@X"),
                         do("clear", "@X"), sleep(1), waits=waits)

    def test_one_that_is_set_does_not_wait(self):
        life = Life(main(let("x", "event"), do("set", "@x"), ("await", "v", ("wait_on", "@x")), say("@v")), ("main",))
        life.turn()
        self.assertEqual([(0, "Task-1", True)], life.log)

    def test_a_wait_that_is_cancelled_leaves_the_row(self):
        life = Life(main(let("X", "event"), start("t", "call", "waits"), sleep(0), do("cancel", "@t", "m"), sleep(1),
                         waits=asynced(tell_await("wait_on", "@X"))), ("main",))
        for _ in range(3):
            life.turn()
        self.assertEqual([(0, "Task-2", OWN)], life.log)
        self.assertEqual([], life.loop.shared["X"].row)


class ConditionTest(Case):
    WAITS = asynced(("with", None, ("it", "@X"), (catch(("await", "v", ("wait_on", "@X")), say("@n", "@v")),
                                                  tell("locked", "@X"))), params=("n",))
    BOTH = (let("X", "condition"), start("s", "call", "waits", 1), start("t", "call", "waits", 2), sleep(1))

    def notifies(self, *call, before=BOTH):
        rows = said(*before, wait("acquire", "@X"), tell(*call), do("release", "@X"), sleep(1), say("end"),
                    waits=self.WAITS)
        return rows[:rows.index("end")]

    def test_its_lock(self):
        self.assert_said([False, True, True, True, None, False], let("l", "lock"), let("x", "condition", "@l"),
                         tell("locked", "@x"), tell_await("acquire", "@x"), tell("locked", "@l"), tell("locked", "@x"),
                         tell("release", "@x"), tell("locked", "@l"))
        self.assert_said([True, False], let("x", "condition"), let("y", "condition"), wait("acquire", "@x"),
                         tell("locked", "@x"), tell("locked", "@y"))

    def test_no_lock(self):
        for value in NOTHING:
            self.assert_fault("AttributeError", "condition", value)
        for maker in (("condition",), ("semaphore",), ("event",), ("barrier", 1)):
            self.assert_fault("AttributeError", "condition", "@x", before=(let("x", *maker),))

    def test_notify(self):
        self.assertEqual([None, (1, True), True], self.notifies("notify", "@X"))
        self.assertEqual([None, (1, True), True], self.notifies("notify", "@X", 1))
        both = [None, (1, True), True, (2, True), True]
        for call in (("notify", "@X", 2), ("notify", "@X", 99), ("notify_all", "@X")):
            self.assertEqual(both, self.notifies(*call))
        for most in (0, -1):
            self.assertEqual([None], self.notifies("notify", "@X", most))
        self.assertEqual([None], self.notifies("notify_all", "@X", before=(let("X", "condition"),)))

    def test_notify_passes_over_those_that_are_done(self):
        self.assert_said([(1, True), (2, True)], *self.BOTH, wait("acquire", "@X"), do("notify", "@X"),
                         do("notify", "@X"), let("o", "it", "@X"), do("release", "@X"), sleep(1),
                         waits=asynced(("with", None, ("it", "@X"), (("await", "v", ("wait_on", "@X")),
                                                                    say("@n", "@v"))), params=("n",)))
        self.assertEqual([OWN, True, (2, True), True],
                         said(*self.BOTH, wait("acquire", "@X"), do("cancel", "@s", "m"), do("notify", "@X"),
                              do("release", "@X"), sleep(1), waits=self.WAITS))

    def test_without_the_lock(self):
        for call in (("notify", "@x"), ("notify", "@x", 0), ("notify_all", "@x")):
            self.assert_fault("RuntimeError", *call, before=(let("x", "condition"),))
        self.assert_await_fault("RuntimeError", "wait_on", "@x", before=(let("x", "condition"),))
        self.assert_said([RUNTIME, False], let("x", "condition"), tell_await("wait_on", "@x"), tell("locked", "@x"))

    def test_the_lock_is_released_while_it_waits(self):
        self.assert_said([True, False, (1, True), True, False], let("X", "condition"), wait("acquire", "@X"),
                         tell("locked", "@X"), do("release", "@X"), start("t", "call", "waits", 1), sleep(0),
                         tell("locked", "@X"), wait("acquire", "@X"), do("notify", "@X"), do("release", "@X"), sleep(1),
                         tell("locked", "@X"), waits=self.WAITS)

    def test_waiting_wakes_the_next_one_of_the_lock(self):
        self.assert_said([(2, True)], let("X", "condition"), start("s", "call", "waits", 1),
                         start("t", "call", "tries", 2), sleep(1), waits=self.WAITS, tries=TRIES)

    def test_a_wait_that_is_cancelled_has_the_lock_again(self):
        self.assert_said([OWN, True], *self.BOTH[:2], sleep(1), do("cancel", "@s", "m"), sleep(1), waits=self.WAITS)

    def test_a_request_while_it_takes_the_lock_is_kept(self):
        rows = log(*self.BOTH[:2], sleep(1), wait("acquire", "@X"), do("notify", "@X"), sleep(0),
                   do("cancel", "@s", "one"), sleep(1), do("cancel", "@s", "two"), sleep(1), do("release", "@X"),
                   sleep(1), waits=self.WAITS)
        self.assertEqual([(3, "Task-2", fault("CancelledError", "two")), (3, "Task-2", True)], rows)

    def test_a_request_behind_another_one(self):
        rows = log(*self.BOTH[:2], sleep(1), wait("acquire", "@X"), do("cancel", "@s", "one"), sleep(1),
                   do("cancel", "@s", "two"), sleep(1), do("release", "@X"), sleep(1), waits=self.WAITS)
        self.assertEqual([(3, "Task-2", fault("CancelledError", "two")), (3, "Task-2", True)], rows)
        rows = log(*self.BOTH[:2], sleep(1), wait("acquire", "@X"), do("cancel", "@s", "one"), sleep(1),
                   do("release", "@X"), sleep(1), waits=self.WAITS)
        self.assertEqual([(2, "Task-2", fault("CancelledError", "one")), (2, "Task-2", True)], rows)

    def test_who_goes_on_with_a_fault_notifies_another_one(self):
        # The first is woken and cancelled; it wakes the second.
        self.assertEqual([None, OWN, True, (2, True), True], said(
            *self.BOTH, wait("acquire", "@X"), tell("notify", "@X"), do("cancel", "@s", "m"), do("release", "@X"),
            sleep(1), waits=self.WAITS))
        # Even if it had not been woken.
        self.assert_said([OWN, True, (2, True), True], *self.BOTH, do("cancel", "@s", "m"), sleep(1), waits=self.WAITS)

    def test_with(self):
        self.assert_said([True, None, False], let("x", "condition"),
                         ("with", "v", ("it", "@x"), (tell("locked", "@x"), say("@v"))), tell("locked", "@x"))

    def test_wait_until(self):
        waits = asynced(("with", None, ("it", "@X"), (("await", "v", ("wait_until", "@X", "least", "@n")),
                                                      say("@n", "@v"))), params=("n",))
        least = plain(let("b", "less", "@N", "@n"), ("if", ("it", "@b"), (("return", ()),), (("return", "@N"),)),
                      params=("n",))
        notify = (wait("acquire", "@X"), let("N", "add", "@N", 1), do("notify_all", "@X"), do("release", "@X"), sleep(1))
        self.assertEqual([(0, "Task-2", 0, 1), (1, "Task-3", 2, 2)],
                         log(let("X", "condition"), let("N", "it", 0), start("t", "call", "waits", 0),
                             start("t", "call", "waits", 2), sleep(0), *notify, *notify, *notify, waits=waits,
                             least=least))

    def test_wait_until_looks_at_the_lock_only_if_it_has_to_wait(self):
        yes, no = plain(("return", "yes")), plain(say("asked"))
        self.assert_said(["yes", "asked", RUNTIME], let("x", "condition"), tell_await("wait_until", "@x", "yes"),
                         tell_await("wait_until", "@x", "no"), yes=yes, no=no)

    def test_faults_of_wait_until(self):
        odd = plain(let("f", "fault", "Odd", "@n"), ("raise", "@f"), params=("n",))
        self.assert_said(["made", fault("Odd", 1)], let("x", "condition"), let("c", "wait_until", "@x", "odd", 1),
                         say("made"), tell_await("it", "@c"), odd=odd)
        self.assert_said(["made", fault("TypeError")], let("x", "condition"), let("c", "wait_until", "@x", "odd"),
                         say("made"), tell_await("it", "@c"), odd=odd)
        self.assert_said([OWN], let("X", "condition"), start("t", "call", "waits"), sleep(1), do("cancel", "@t", "m"),
                         sleep(1), no=plain(), waits=asynced(
                             wait("acquire", "@X"), tell_await("wait_until", "@X", "no")))


class SemaphoreTest(Case):
    def test_its_value(self):
        for maker in (("semaphore",), ("bounded",), ("semaphore", 1), ("bounded", 1)):
            self.assert_said([False, True, True, None, False], let("x", *maker), tell("locked", "@x"),
                             tell_await("acquire", "@x"), tell("locked", "@x"), tell("release", "@x"),
                             tell("locked", "@x"))
        for maker in (("semaphore", 2), ("bounded", 2)):
            self.assert_said([True, False, True, True], let("x", *maker), tell_await("acquire", "@x"),
                             tell("locked", "@x"), tell_await("acquire", "@x"), tell("locked", "@x"))
        for maker in (("semaphore", 0), ("bounded", 0)):
            self.assert_said([True], let("x", *maker), tell("locked", "@x"))

    def test_no_value(self):
        for op in ("semaphore", "bounded"):
            for value in (None, True, "1", (1,)):
                self.assert_fault("TypeError", op, value)
            self.assert_fault("ValueError", op, -1)

    def test_release(self):
        self.assert_said([None, None, False, True, True, True], let("x", "semaphore", 0), tell("release", "@x"),
                         tell("release", "@x"), tell("locked", "@x"), tell_await("acquire", "@x"),
                         tell_await("acquire", "@x"), tell("locked", "@x"))
        value = fault("ValueError")
        self.assert_said([value, True, None, value], let("x", "bounded", 2), tell("release", "@x"),
                         tell_await("acquire", "@x"), tell("release", "@x"), tell("release", "@x"))
        self.assert_said([value], let("x", "bounded", 0), tell("release", "@x"))

    def test_in_the_order_in_which_waits_began(self):
        self.assert_said([("in", 1), ("in", 2), ("out", 1), ("left", 1), ("out", 2), ("left", 2), ("in", 3), ("in", 4)],
                         let("X", "semaphore", 2), *[start("t", "call", "takes", n, 1) for n in (1, 2, 3, 4)],
                         sleep(1), sleep(0), sleep(0), let("stop", "stop"), takes=TAKES)

    def test_it_is_locked_while_one_is_woken_and_not_gone(self):
        self.assert_said([True, True, (1, True), False], let("X", "semaphore", 0), start("t", "call", "tries", 1),
                         sleep(0), do("release", "@X"), tell("locked", "@X"), do("release", "@X"), tell("locked", "@X"),
                         sleep(0), tell("locked", "@X"), tries=TRIES)

    def test_who_comes_meanwhile_waits_and_is_woken(self):
        self.assert_said([(1, True), "mine"], let("X", "semaphore", 0), start("t", "call", "tries", 1), sleep(0),
                         do("release", "@X"), do("release", "@X"), wait("acquire", "@X"), say("mine"), tries=TRIES)

    def test_a_woken_one_that_is_cancelled_gives_back_what_it_took(self):
        self.assert_said([OWN, (2, True), True], let("X", "bounded", 1), wait("acquire", "@X"),
                         start("s", "call", "tries", 1), start("t", "call", "tries", 2), sleep(0), do("release", "@X"),
                         do("cancel", "@s", "m"), sleep(1), tell("locked", "@X"), tries=TRIES)
        self.assert_said([OWN, False, True, True], let("X", "semaphore", 0), start("s", "call", "tries", 1), sleep(0),
                         do("release", "@X"), do("cancel", "@s", "m"), sleep(1), tell("locked", "@X"),
                         tell_await("acquire", "@X"), tell("locked", "@X"), tries=TRIES)

    def test_a_bounded_one_counts_a_taken_value_as_taken(self):
        self.assert_said([None, fault("ValueError")], let("X", "bounded", 1), wait("acquire", "@X"), tell("release", "@X"),
                         tell("release", "@X"))
        self.assert_said([None, None, (1, True)], let("X", "bounded", 1), wait("acquire", "@X"),
                         start("t", "call", "tries", 1), sleep(0), tell("release", "@X"), tell("release", "@X"), sleep(1),
                         tries=TRIES)

    def test_a_live_one_that_is_cancelled(self):
        self.assert_said([OWN, True, None, False], let("X", "semaphore", 0), start("s", "call", "tries", 1), sleep(0),
                         do("cancel", "@s", "m"), sleep(1), tell("locked", "@X"), tell("release", "@X"),
                         tell("locked", "@X"), tries=TRIES)

    def test_who_goes_on_wakes_as_many_as_are_allowed(self):
        # The value is raised while the first one that is woken has not gone on: the others come by it.
        rows = log(let("X", "semaphore", 0), *[start("t", "call", "tries", n) for n in (1, 2, 3)], sleep(0),
                   do("cancel", "@t", "m"), *[do("release", "@X")] * 2, sleep(1), tries=TRIES)
        self.assertEqual([(0, "Task-2", 1, True), (0, "Task-3", 2, True)],
                         sorted(row for row in rows if len(row) == 4))

    def test_with(self):
        for maker in (("semaphore", 1), ("bounded", 1)):
            self.assert_said([True, None, False], let("x", *maker),
                             ("with", "v", ("it", "@x"), (tell("locked", "@x"), say("@v"))), tell("locked", "@x"))
        self.assert_said([fault("ValueError")], let("x", "bounded", 1), catch(
            ("with", None, ("it", "@x"), (do("release", "@x"),))))


class BarrierTest(Case):
    COMES = asynced(catch(("await", "v", ("wait_on", "@X")), say("@n", "@v")), params=("n",))
    BROKEN = fault("BrokenBarrierError")

    def test_parties(self):
        self.assert_said([3, 0, False], let("x", "barrier", 3), tell("parties", "@x"), tell("waiting", "@x"),
                         tell("broken", "@x"))
        for value in (None, True, "1", (1,)):
            self.assert_fault("TypeError", "barrier", value)
        for value in (0, -1):
            self.assert_fault("ValueError", "barrier", value)

    def test_one_party(self):
        life = Life(main(let("x", "barrier", 1), ("await", "v", ("wait_on", "@x")), say("@v")), ("main",))
        life.turn()
        self.assertEqual([(0, "Task-1", 0)], life.log)

    def test_all_go_on_when_so_many_are_there(self):
        self.assertEqual([(0, "Task-1", 2), (1, "Task-4", 3, 2), (1, "Task-2", 1, 0), (1, "Task-3", 2, 1),
                          (2, "Task-1", 0)],
                         log(let("X", "barrier", 3), start("t", "call", "comes", 1), start("t", "call", "comes", 2),
                             sleep(0), tell("waiting", "@X"), sleep(1), start("t", "call", "comes", 3), sleep(1),
                             tell("waiting", "@X"), comes=self.COMES))

    def test_who_comes_while_it_drains_waits_for_the_next_round(self):
        # A third comes in the turn in which the barrier drains.
        rows = log(let("X", "barrier", 2), *[start("t", "call", "comes", n) for n in (1, 2, 3)], sleep(2),
                   tell("waiting", "@X"), start("t", "call", "comes", 4), sleep(1), comes=self.COMES)
        self.assertEqual([(0, "Task-3", 2, 1), (0, "Task-2", 1, 0), (2, "Task-1", 1), (2, "Task-5", 4, 1),
                          (2, "Task-4", 3, 0)], rows)

    def test_waiting_is_0_while_it_drains(self):
        rows = said(let("X", "barrier", 2), start("t", "call", "comes", 1), start("t", "call", "comes", 2), sleep(0),
                    tell("waiting", "@X"), sleep(1), comes=self.COMES)
        self.assertEqual([(2, 1), (1, 0)], [row for row in rows if row != 0])
        life = Life(main(let("X", "barrier", 2), start("t", "call", "comes", 1), sleep(0), start("t", "call", "comes", 2),
                         do("soon", "tells"), sleep(9), comes=self.COMES, tells=plain(tell("waiting", "@X"))), ("main",))
        for _ in range(4):
            life.turn()
        self.assertEqual([(2, 1), (0,)], [row[2:] for row in life.log[:2]])

    def test_abort(self):
        self.assertEqual([(1, "Task-1", True), (1, "Task-2", self.BROKEN), (1, "Task-1", self.BROKEN), (1, "Task-1", 0)],
                         log(let("X", "barrier", 2), start("t", "call", "comes", 1), sleep(1), wait("abort", "@X"),
                             tell("broken", "@X"), sleep(0), sleep(0), tell_await("wait_on", "@X"),
                             tell("waiting", "@X"), comes=self.COMES))

    def test_one_that_is_broken_stays_so_until_it_is_reset(self):
        self.assert_said([None, True, self.BROKEN, None, False, 0], let("x", "barrier", 1), tell_await("abort", "@x"),
                         tell("broken", "@x"), tell_await("wait_on", "@x"), tell_await("reset", "@x"),
                         tell("broken", "@x"), tell_await("wait_on", "@x"))

    def test_reset(self):
        rows = log(let("X", "barrier", 2), start("t", "call", "comes", 1), sleep(1), tell_await("reset", "@X"),
                   tell("broken", "@X"), start("t", "call", "comes", 2), sleep(1), tell("waiting", "@X"),
                   start("t", "call", "comes", 3), sleep(1), comes=self.COMES)
        self.assertEqual([(1, "Task-1", None), (1, "Task-1", False), (1, "Task-2", self.BROKEN), (2, "Task-1", 1),
                          (2, "Task-4", 3, 1), (2, "Task-3", 2, 0)], rows)
        self.assert_said([None, False, 0], let("x", "barrier", 1), tell_await("reset", "@x"), tell("broken", "@x"),
                         tell_await("wait_on", "@x"))

    def test_a_reset_while_it_drains(self):
        # The second party goes on at once; the first one is still to go on, and fails.
        rows = said(let("X", "barrier", 2), start("t", "call", "comes", 1), start("t", "call", "comes", 2),
                    start("t", "reset", "@X"), sleep(2), tell("waiting", "@X"), tell("broken", "@X"), comes=self.COMES)
        self.assertEqual([(2, 1), self.BROKEN, 0, False], rows)

    def test_a_wait_that_is_cancelled(self):
        self.assert_said([1, OWN, 0, (3, 1), (2, 0)], let("X", "barrier", 2), start("t", "call", "comes", 1), sleep(0),
                         tell("waiting", "@X"), do("cancel", "@t", "m"), sleep(1), tell("waiting", "@X"),
                         start("t", "call", "comes", 2), start("t", "call", "comes", 3), sleep(1), comes=self.COMES)

    def test_with(self):
        holds = asynced(("with", "v", ("it", "@X"), (say("in", "@v"), sleep(1))), say("out"))
        self.assert_said([("in", 1), ("in", 0), "out", "out"], let("X", "barrier", 2), start("t", "call", "holds"),
                         start("t", "call", "holds"), sleep(2), holds=holds)
        self.assert_said([self.BROKEN], let("x", "barrier", 1), wait("abort", "@x"),
                         catch(("with", None, ("it", "@x"), (say("never"),))))


class ErrorsTest(Case):
    MAKERS = {"lock": ("lock",), "event": ("event",), "condition": ("condition",), "semaphore": ("semaphore",),
              "bounded": ("bounded",), "barrier": ("barrier", 2), "queue": ("queue",), "future": ("future",)}
    DEEDS = {
        "locked": ("lock", "condition", "semaphore", "bounded"), "acquire": ("lock", "condition", "semaphore", "bounded"),
        "release": ("lock", "condition", "semaphore", "bounded"), "is_set": ("event",), "set": ("event",),
        "clear": ("event",), "wait_on": ("event", "condition", "barrier"), "notify": ("condition",),
        "notify_all": ("condition",), "wait_until": ("condition",), "reset": ("barrier",), "abort": ("barrier",),
        "parties": ("barrier",), "waiting": ("barrier",), "broken": ("barrier",),
    }

    def test_things_that_do_not_have_the_deed(self):
        for op, kinds in self.DEEDS.items():
            more = ("yes",) if op == "wait_until" else ()
            for kind, maker in self.MAKERS.items():
                rows = said(let("x", *maker), tell(op, "@x", *more), yes=plain())
                if kind in kinds:
                    self.assertNotEqual([fault("AttributeError")], rows, (op, kind))
                else:
                    self.assertEqual([fault("AttributeError")], rows, (op, kind))
            for value in NOTHING:
                self.assert_fault("AttributeError", op, value, *more, yes=plain())

    def test_no_number_to_notify(self):
        for value in (None, True, "1", (1,)):
            self.assert_fault("TypeError", "notify", "@x", value, before=(let("x", "condition"),))
            self.assert_fault("AttributeError", "notify", "@x", value, before=(let("x", "lock"),))

    def test_coroutines_are_made_by_the_call(self):
        for op, kinds in self.DEEDS.items():
            if op in ("acquire", "wait_on", "wait_until", "reset", "abort"):
                for kind in kinds:
                    more = ("yes",) if op == "wait_until" else ()
                    told = report(let("x", *self.MAKERS[kind]), let("c", op, "@x", *more), say("@c"), yes=plain())
                    self.assertEqual("Coroutine-1", told.log[0][2])
                    self.assertEqual([(0, "coroutine was never awaited", op, None)], told.notes)


if __name__ == "__main__":
    unittest.main()
