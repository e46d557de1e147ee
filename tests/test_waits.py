"""Sleeping, waiting for several things, timeouts [7]."""

import unittest

from loopyard.running import Life
from tests.helper import (
    SAYS, Case, asynced, catch, do, fault, let, log, main, plain, report, said, say, sleep, start, tell, tell_await,
    wait,
)

CANCELLED = fault("CancelledError")
TIMEOUT = fault("TimeoutError")
ODD = asynced(sleep(1), let("f", "fault", "Odd", "@n"), ("raise", "@f"), params=("n",))
F = let("F", "future")
G = let("G", "future")


def tasks(*delays):
    """Tasks a, b, .. that sleep so long, and end with their delay."""
    steps = []
    for name, delay in zip("abcdefg", delays):
        steps.extend([let("c", "sleep", delay, delay), let(name, "task", "@c", name)])
    return steps


class SleepTest(Case):
    def test_result(self):
        self.assertEqual([(0, "Task-1", None), (0, "Task-1", "r"), (2, "Task-1", "s"), (3, "Task-1", None)],
                         log(tell_await("sleep", 0), tell_await("sleep", -4, "r"), tell_await("sleep", 2, "s"),
                             tell_await("sleep", 1)))

    def test_no_delay(self):
        for value in (None, True, "1", (1,)):
            self.assert_await_fault("TypeError", "sleep", value)
        self.assert_await_fault("TypeError", "sleep", "@f", before=(let("f", "future"),))

    def test_nothing_is_done_ahead_of_its_first_step(self):
        self.assertEqual([(5, "Task-1", None)], log(let("c", "sleep", 2), sleep(3), tell_await("it", "@c")))

    def test_the_timer_is_cancelled_however_it_ends(self):
        life = Life(main(start("t", "sleep", 9), do("later", 5, "tell", 1), sleep(1), do("cancel", "@t"), sleep(0),
                         sleep(0), sleep(0), tell=SAYS), ("main",))
        for _ in range(5):
            life.turn()
        self.assertEqual((1, 2), (life.loop.dropped_timers, len(life.loop.heap)))

    def test_a_sleep_that_is_cancelled_behind_its_time(self):
        self.assert_said([True, fault("CancelledError", "m")], let("c", "call", "sleeps"), let("T", "task", "@c"),
                         do("at", 2, "cancels"), sleep(4), sleeps=asynced(tell_await("sleep", 2)),
                         cancels=plain(tell("cancel", "@T", "m")))


class WaitTest(Case):
    def test_all(self):
        rows = log(*tasks(3, 1), ("await", "p", ("wait", ("@b", "@a"))), say("@p"))
        self.assertEqual([(3, "Task-1", (("b", "a"), ()))], rows)

    def test_the_first_one(self):
        self.assertEqual([(1, "Task-1", (("b",), ("a",)))],
                         log(*tasks(3, 1), ("await", "p", ("wait", ("@a", "@b"), None, "FIRST_COMPLETED")), say("@p")))

    def test_the_first_fault(self):
        for until, expected in (("FIRST_EXCEPTION", (1, "Task-1", (("Task-2",), ("a",)))),
                                ("FIRST_COMPLETED", (1, "Task-1", (("Task-2",), ("a",)))),
                                ("ALL_COMPLETED", (3, "Task-1", (("a", "Task-2"), ())))):
            self.assertEqual([expected], log(*tasks(3), start("t", "call", "odd", 1),
                                             ("await", "p", ("wait", ("@a", "@t"), None, until)), say("@p"), odd=ODD))

    def test_one_that_is_cancelled_has_no_fault(self):
        self.assertEqual([(3, "Task-1", (("a", "Future-1"), ()))],
                         log(*tasks(3), let("f", "future"), do("cancel", "@f"),
                             ("await", "p", ("wait", ("@a", "@f"), None, "FIRST_EXCEPTION")), say("@p")))

    def test_whose_fault_counts_as_seen(self):
        def unseen(until):
            told = report(*tasks(3), start("t", "call", "odd", 1), wait("wait", ("@a", "@t"), None, until), sleep(5),
                          odd=ODD)
            return [note[2] for note in told.notes]
        self.assertEqual([], unseen("FIRST_EXCEPTION"))
        self.assertEqual(["Task-2"], unseen("FIRST_COMPLETED"))
        self.assertEqual(["Task-2"], unseen("ALL_COMPLETED"))

    def test_it_is_asked_for_its_fault_only_if_that_matters(self):
        told = report(start("t", "call", "odd", 1), wait("wait", ("@t",), None, "FIRST_EXCEPTION"), odd=ODD)
        self.assertEqual(["Task-2"], [note[2] for note in told.notes])

    def test_a_timeout(self):
        self.assertEqual([(2, "Task-1", (("a",), ("b",)))],
                         log(*tasks(1, 5), ("await", "p", ("wait", ("@b", "@a"), 2)), say("@p")))
        self.assertEqual([(0, "Task-1", ((), ("a",)))], log(*tasks(3), ("await", "p", ("wait", ("@a",), -1)),
                                                                say("@p")))

    def test_what_is_done_when_it_goes_on(self):
        # b ends in the turn in which the waiter is set, and is done when the wait goes on.
        rows = log(*tasks(1), let("c", "call", "ends"), let("b", "task", "@c", "b"),
                   ("await", "p", ("wait", ("@a", "@b"), None, "FIRST_COMPLETED")), say("@p"),
                   ends=asynced(sleep(1), sleep(0)))
        self.assertEqual([(1, "Task-1", (("a", "b"), ()))], rows)

    def test_each_is_watched_once(self):
        self.assertEqual([(2, "Task-1", (("a", "b"), ()))],
                         log(*tasks(1, 2), ("await", "p", ("wait", ("@a", "@b", "@a"))), say("@p")))

    def test_it_takes_two_turns_at_least(self):
        life = Life(main(let("f", "future"), do("set_result", "@f", 1), wait("wait", ("@f",)), say("end")), ("main",))
        rows = []
        for _ in range(3):
            life.turn()
            rows.append(len(life.log))
        self.assertEqual([0, 0, 1], rows)

    def test_its_callbacks_are_taken_out_and_its_timer_cancelled(self):
        life = Life(main(F, G, do("at", 20, "tell", 1), wait("wait", ("@F", "@G"), 50, "FIRST_COMPLETED"), sleep(1),
                         say("@F"), tell=SAYS), ("main",))
        life.turn()
        future = life.loop.shared["G"]
        self.assertEqual(1, len(future.laid))
        life.loop.soon(life.loop.shared["F"].laid[0], life.loop.shared["F"])
        for _ in range(2):
            life.turn()
        self.assertEqual(([], 1), (future.laid, life.loop.dropped_timers))

    def test_a_wait_that_is_cancelled(self):
        self.assert_said([CANCELLED, False, False], *tasks(5, 6), let("A", "it", "@a"), let("B", "it", "@b"),
                         start("t", "call", "waits"), sleep(1), do("cancel", "@t"), sleep(1), tell("done", "@a"),
                         tell("cancelled", "@b"), waits=asynced(tell_await("wait", ("@A", "@B"))))

    def test_what_it_refuses_in_order(self):
        wrong = let("x", "lock")
        for things, more, kind in (
            (None, ("a", "b"), "TypeError"), ("ab", (), "TypeError"), ("@F", (), "TypeError"), ((), (), "ValueError"),
            ((), ("a", "b"), "ValueError"), ((1,), ("a", "NONE"), "ValueError"), (("@F",), (None, None), "ValueError"),
            (("@F",), (None, 1), "ValueError"), (("@F",), (1, ("ALL_COMPLETED",)), "ValueError"),
            (("@F", 1), (1,), "TypeError"), (("@x",), (), "TypeError"), (("@c",), (), "TypeError"),
            (("@F",), ("a",), "TypeError"), (("@F",), (True,), "TypeError"),
        ):
            self.assert_await_fault(kind, "wait", things, *more, before=(F, wrong, let("c", "sleep", 1)))


class GatherTest(Case):
    def test_values_in_the_order_of_things(self):
        self.assertEqual([(3, "Task-1", (3, "x", 1))],
                         log(*tasks(3, 1), let("f", "future"), do("set_result", "@f", "x"),
                             tell_await("gather", ("@a", "@f", "@b"))))

    def test_it_is_a_future_at_once(self):
        self.assert_said(["Future-1", False, ("Task-1", "Task-2")], let("c", "sleep", 1), let("g", "gather", ("@c",)),
                         say("@g"), tell("done", "@g"), tell("tasks"))

    def test_of_no_things(self):
        self.assert_said(["Future-1", True, ()], let("g", "gather", ()), say("@g"), tell("done", "@g"),
                         tell("result", "@g"))

    def test_a_coroutine_that_stands_there_twice(self):
        self.assert_said([(5, 5), ("Task-1",)], let("c", "sleep", 1, 5), tell_await("gather", ("@c", "@c")),
                         tell("tasks"))

    def test_no_tuple(self):
        for value in (None, "ab", 1, "@F"):
            self.assert_fault("TypeError", "gather", value, before=(F,))

    def test_a_thing_that_cannot_be_taken(self):
        self.assert_said([fault("TypeError"), ("Task-1", "Task-2"), 0, "ran"], F, let("c", "call", "ran"),
                         let("l", "lock"), tell("gather", ("@c", "@F", "@l")), tell("tasks"),
                         tell("off_done", "@F", "cb"), sleep(0), ran=asynced(say("ran")), cb=SAYS)

    def test_callbacks_of_one_that_was_refused(self):
        told = report(F, G, let("x", "fault", "Odd"), let("y", "fault", "Other"), do("set_exception", "@G", "@y"),
                      tell("gather", ("@F", "@G", 1)), do("set_exception", "@F", "@x"), sleep(1))
        self.assertEqual([fault("Other")], [note[3] for note in told.notes])

    def test_the_first_fault(self):
        rows = log(*tasks(3), start("t", "call", "odd", 7), tell_await("gather", ("@a", "@t")), tell("done", "@a"),
                   sleep(5), tell("result", "@a"), odd=ODD)
        self.assertEqual([(1, "Task-1", fault("Odd", 7)), (1, "Task-1", False), (6, "Task-1", 3)], rows)

    def test_the_first_fault_of_several_that_were_done(self):
        self.assert_said([fault("Odd", 1)], F, G, let("x", "fault", "Odd", 1), let("y", "fault", "Odd", 2),
                         do("set_exception", "@G", "@y"), do("set_exception", "@F", "@x"),
                         tell_await("gather", ("@F", "@G")))

    def test_it_is_done_at_once_if_all_children_are(self):
        self.assert_said([True, (1, 2)], F, G, do("set_result", "@F", 1), do("set_result", "@G", 2),
                         let("g", "gather", ("@F", "@G")), tell("done", "@g"), tell("result", "@g"))

    def test_a_child_that_is_cancelled(self):
        own = fault("CancelledError", "m")
        self.assert_said([own, False, own], F, do("cancel", "@F", "m"), let("g", "gather", ("@F",)),
                         tell_await("it", "@g"), tell("cancelled", "@g"), tell("exception", "@g"))
        self.assert_said([own, CANCELLED], *tasks(9), sleep(0), do("cancel", "@a", "m"), sleep(1),
                         tell_await("gather", ("@a",)), tell("result", "@a"))

    def test_outcomes_as_values(self):
        self.assert_said([(3, fault("Odd", 7), fault("CancelledError", "m"), fault("CancelledError", ""),
                           fault("Odd", 7))],
                         *tasks(3, 9), start("t", "call", "odd", 7), F, do("cancel", "@F", "m"), sleep(0),
                         do("cancel", "@b", "lost"), tell_await("gather", ("@a", "@t", "@F", "@b", "@t"), 1), odd=ODD)

    def test_as_values_asks_for_no_cancelled_error(self):
        self.assert_said([(fault("CancelledError", ""),), fault("CancelledError", "m")], *tasks(9), sleep(0),
                         do("cancel", "@a", "m"), sleep(1), tell_await("gather", ("@a",), True), tell("result", "@a"))

    def test_which_faults_count_as_seen(self):
        def unseen(*steps):
            told = report(F, G, let("x", "fault", "A"), let("y", "fault", "B"), *steps)
            return [note[3][1] for note in told.notes]
        both = (do("set_exception", "@F", "@x"), do("set_exception", "@G", "@y"))
        self.assertEqual([], unseen(*both, tell_await("gather", ("@F", "@G"))))
        self.assertEqual(["A"], unseen(*both, do("gather", ("@F", "@G"))))
        self.assertEqual([], unseen(*both, do("gather", ("@F", "@G"), True)))
        self.assertEqual([], unseen(tell("it", 1), let("g", "gather", ("@F", "@G"), True), *both, sleep(1)))
        self.assertEqual(["A"], unseen(let("g", "gather", ("@F", "@G")), *both, sleep(1)))

    def test_the_gathering_future_is_made_last(self):
        told = report(F, let("x", "fault", "A"), do("set_exception", "@F", "@x"),
                      let("g", "gather", ("@F",)), let("f", "future"), do("set_exception", "@f", "@x"))
        self.assertEqual(["Future-1", "Future-2"], [note[2] for note in told.notes])


class CancelGatherTest(Case):
    def test_all_children_are_cancelled_with_the_message(self):
        own = fault("CancelledError", "m")
        self.assert_said([True, False, False, 1, 1, own, own], *tasks(5, 6), let("g", "gather", ("@a", "@b")), sleep(0),
                         tell("cancel", "@g", "m"), tell("done", "@g"), tell("cancelled", "@g"),
                         tell("cancelling", "@a"), tell("cancelling", "@b"), tell_await("it", "@g"),
                         tell("result", "@b"))

    def test_one_that_stands_there_twice(self):
        self.assert_said([True, 2], *tasks(5), let("g", "gather", ("@a", "@a")), sleep(0), tell("cancel", "@g"),
                         tell("cancelling", "@a"))

    def test_one_that_is_done(self):
        told = report(F, let("x", "fault", "A"), do("set_exception", "@F", "@x"), let("g", "gather", ("@F",)),
                      tell("cancel", "@g"))
        self.assertEqual([False], [row[2] for row in told.log])
        self.assertEqual([fault("A")], [note[3] for note in told.notes])

    def test_if_no_child_can_be_cancelled(self):
        self.assert_said([False, (1,)], F, let("g", "gather", ("@F",)), do("set_result", "@F", 1), tell("cancel", "@g"),
                         tell_await("it", "@g"))

    def test_as_values_it_gets_a_cancelled_error_of_the_last_child(self):
        self.assert_said([True, fault("CancelledError", "m")], F, G, let("g", "gather", ("@F", "@G"), True),
                         tell("cancel", "@g", "m"), tell_await("it", "@g"))
        swallows = asynced(catch(sleep(9), then=()), ("return", 1))
        self.assert_said([True, CANCELLED, 1], start("t", "call", "swallows"), sleep(0),
                         let("g", "gather", ("@t",), True), tell("cancel", "@g", "m"),
                         tell_await("it", "@g"), tell("result", "@t"), swallows=swallows)

    def test_the_message_that_the_last_child_keeps(self):
        # The request reaches t in the ready queue: it is marked, keeps the message, and swallows the request.
        swallows = asynced(catch(sleep(0), then=()), ("return", 1))
        self.assert_said([True, fault("CancelledError", "m")], start("t", "call", "swallows"), sleep(0),
                         let("g", "gather", ("@t",)), tell("cancel", "@g", "m"), tell_await("it", "@g"),
                         swallows=swallows)

    def test_who_awaits_it_waits_until_the_children_end_it(self):
        drags = asynced(catch(sleep(9), then=(sleep(3),)), ("return", 1))
        rows = log(start("t", "call", "drags"), let("G", "gather", ("@t",)), start("w", "call", "waits"), sleep(1),
                   tell("cancel", "@w"), sleep(9), drags=drags, waits=asynced(tell_await("it", "@G")))
        self.assertEqual([(1, "Task-1", True), (4, "Task-3", CANCELLED)], rows)

    def test_a_waiting_task_is_marked_where_it_gives_false(self):
        # All children are done, but the gathering future has not looked at them: cancelling it gives False.
        rows = said(F, let("G", "gather", ("@F",)), start("w", "call", "waits"), sleep(0), do("set_result", "@F", 1),
                    tell("cancel", "@w", "m"), sleep(1), tell("result", "@G"), waits=asynced(tell_await("it", "@G")))
        self.assertEqual([True, fault("CancelledError", "m"), (1,)], rows)


class AsCompletedTest(Case):
    def times(self, *steps):
        return ("each", "c", "@e", (tell_await("it", "@c"), *steps))

    def test_in_the_order_in_which_they_end(self):
        self.assertEqual([(1, "Task-1", 1), (2, "Task-1", 2), (3, "Task-1", 3), (3, "Task-1", "end")],
                         log(*tasks(3, 1), let("c", "sleep", 2, 2), let("e", "as_completed", ("@a", "@b", "@c")),
                             self.times(), say("end")))

    def test_async_each_gives_the_futures(self):
        self.assertEqual([(1, "Task-1", "b"), (3, "Task-1", "a"), (3, "Task-1", "end")],
                         log(*tasks(3, 1), let("e", "as_completed", ("@a", "@b")),
                             ("async_each", "f", "@e", (say("@f"),)), say("end")))

    def test_each_gives_coroutines(self):
        self.assert_said(["Coroutine-1", 1], *tasks(1), let("e", "as_completed", ("@a",)),
                         ("each", "c", "@e", (say("@c"), tell_await("it", "@c"))))

    def test_what_it_refuses(self):
        for value in (None, "ab", 1, "@F"):
            self.assert_fault("TypeError", "as_completed", value, before=(F,))
        for value in ("a", True, (1,)):
            self.assert_fault("TypeError", "as_completed", ("@F",), value, before=(F,))
        self.assert_said([fault("TypeError"), ("Task-1", "Task-2")], F, let("c", "sleep", 1),
                         tell("as_completed", ("@c", "@F", 1)), tell("tasks"))
        self.assert_said([fault("TypeError"), ("Task-1",)], let("c", "sleep", 1),
                         tell("as_completed", ("@c",), "a"), tell("tasks"))

    def test_no_callback_is_laid_if_one_cannot_be_taken(self):
        life = Life(main(F, tell("as_completed", ("@F", 1)), sleep(1)), ("main",))
        life.turn()
        self.assertEqual([], life.loop.shared["F"].laid)

    def test_things_that_stand_there_twice(self):
        self.assert_said([1, "end"], *tasks(1), let("e", "as_completed", ("@a", "@a")), self.times(), say("end"))

    def test_no_things(self):
        self.assert_said(["end"], let("e", "as_completed", (), 3), self.times(), ("async_each", "c", "@e", ()),
                         say("end"))

    def test_a_timeout(self):
        self.assertEqual([(1, "Task-1", 1), (2, "Task-1", TIMEOUT), (2, "Task-1", TIMEOUT), (9, "Task-1", 5)],
                         log(*tasks(1, 5, 6), let("e", "as_completed", ("@a", "@b", "@c"), 2), self.times(), sleep(7),
                             tell("result", "@b")))
        self.assertEqual([(2, "Task-1", TIMEOUT)], log(*tasks(5), let("e", "as_completed", ("@a",), 2),
                                                      catch(("async_each", "f", "@e", (say("@f"),)))))
        self.assert_said([TIMEOUT], *tasks(5), let("e", "as_completed", ("@a",), -3), self.times())

    def test_the_timer_is_cancelled_by_the_last_one(self):
        life = Life(main(*tasks(1, 2), let("e", "as_completed", ("@a", "@b"), 50), do("at", 20, "tell", 1),
                         self.times(), sleep(9), tell=SAYS), ("main",))
        while len(life.log) < 1:
            life.turn()
        self.assertEqual(0, life.loop.dropped_timers)
        while len(life.log) < 2:
            life.turn()
        self.assertEqual(1, life.loop.dropped_timers)

    def test_faults(self):
        told = report(start("t", "call", "odd", 7), let("e", "as_completed", ("@t",)), self.times(), odd=ODD)
        self.assertEqual([fault("Odd", 7)], [row[2] for row in told.log])
        self.assertEqual([], told.notes)
        told = report(start("t", "call", "odd", 7), let("e", "as_completed", ("@t",)),
                      ("async_each", "f", "@e", (say("@f"),)), odd=ODD)
        self.assertEqual(["Task-2"], [note[2] for note in told.notes])

    def test_a_time_is_used_up_when_it_is_begun(self):
        told = report(*tasks(1, 2), let("e", "as_completed", ("@a", "@b")),
                      ("each", "c", "@e", (let("d", "it", "@c"), ("break",))), self.times(), say("end"))
        self.assertEqual([1, "end"], [row[2] for row in told.log])
        self.assertEqual([(1, "coroutine was never awaited", "as_completed", None)],
                         [note for note in told.notes if "coroutine" in note[1]])

    def test_several_tasks_by_turns(self):
        takes = asynced(("each", "c", "@E", (("await", "v", ("it", "@c")), say("@n", "@v"))), params=("n",))
        self.assert_said([(1, 1), (2, 2), (1, 3)], *tasks(1, 2, 3), let("E", "as_completed", ("@a", "@b", "@c")),
                         start("s", "call", "takes", 1), start("t", "call", "takes", 2), sleep(9), takes=takes)

    def test_a_time_that_is_cancelled_hands_on_what_it_was_woken_for(self):
        takes = asynced(("each", "c", "@E", (tell_await("it", "@c"),)))
        self.assert_said([True, fault("CancelledError", "m"), 1], F, G, let("E", "as_completed", ("@F", "@G")),
                         start("s", "call", "takes"), start("t", "call", "takes"), sleep(0),
                         do("soon", "cancels", "@s"), do("set_result", "@F", 1), sleep(1),
                         takes=takes, cancels=plain(do("soon", "cancel_now", "@s"), params=("s",)),
                         cancel_now=plain(tell("cancel", "@s", "m"), params=("s",)))

    def test_a_wait_of_an_each_that_is_cancelled_cancels_nothing(self):
        takes = asynced(("each", "c", "@E", (tell_await("it", "@c"),)))
        self.assert_said([fault("CancelledError", "m"), False], F, let("E", "as_completed", ("@F",)),
                         start("s", "call", "takes"), sleep(0), do("cancel", "@s", "m"), sleep(1),
                         tell("cancelled", "@F"), takes=takes)


class WaitForTest(Case):
    def test_the_outcome_of_the_thing(self):
        self.assertEqual([(2, "Task-1", 2), (3, "Task-1", fault("Odd", 4)), (5, "Task-1", 5)],
                         log(let("c", "sleep", 2, 2), tell_await("wait_for", "@c", 9), let("c", "call", "odd", 4),
                             tell_await("wait_for", "@c", 9), let("c", "sleep", 2, 5),
                             let("t", "task", "@c"), tell_await("wait_for", "@t", None), odd=ODD))

    def test_it_times_out(self):
        rows = log(*tasks(9), tell_await("wait_for", "@a", 2), tell("cancelled", "@a"), tell("done", "@a"),
                   let("m", "current"), tell("cancelling", "@m"))
        self.assertEqual([(2, "Task-1", TIMEOUT), (2, "Task-1", True), (2, "Task-1", True), (2, "Task-1", 0)], rows)
        self.assertEqual([(2, "Task-1", "last"), (2, "Task-1", TIMEOUT)],
                         log(let("c", "call", "co"), tell_await("wait_for", "@c", 2),
                             co=asynced(("try", (sleep(9),), (), (), (say("last"),)))))

    def test_the_thing_is_awaited_in_the_same_task(self):
        self.assert_said(["Task-1", ("Task-1",)], let("c", "call", "co"), tell_await("wait_for", "@c", 2),
                         co=asynced(let("m", "current"), let("t", "tasks"), say("@m"), ("return", "@t")))

    def test_what_cannot_be_awaited(self):
        for timeout in (5, None):
            for value in (None, 1, "x"):
                self.assert_await_fault("TypeError", "wait_for", value, timeout)
            self.assert_await_fault("RuntimeError", "wait_for", "@c", timeout,
                                    before=(let("c", "sleep", 0), wait("it", "@c")))
        for timeout in (0, -1):
            for value in (None, 1, "x"):
                self.assert_await_fault("TypeError", "wait_for", value, timeout)

    def test_no_timeout(self):
        for value in ("a", True, (1,)):
            self.assert_await_fault("TypeError", "wait_for", "@F", value, before=(F,))
            self.assert_await_fault("TypeError", "wait_for", 1, value, before=(F,))

    def test_without_any_time(self):
        for timeout in (0, -1):
            self.assert_said([7], F, do("set_result", "@F", 7), tell_await("wait_for", "@F", timeout))
            self.assert_said([fault("CancelledError", "m")], F, do("cancel", "@F", "m"),
                             tell_await("wait_for", "@F", timeout))
            self.assert_said([TIMEOUT, True], F, tell_await("wait_for", "@F", timeout), tell("cancelled", "@F"))
            self.assert_said([TIMEOUT], let("c", "call", "co"), tell_await("wait_for", "@c", timeout),
                             co=asynced(say("never")))
        self.assert_said(["told"], start("t", "call", "swallows"), sleep(0), tell_await("wait_for", "@t", 0),
                         swallows=asynced(catch(sleep(9), then=()), ("return", "told")))
        self.assert_said([fault("Odd", 3)], start("t", "call", "odd"), sleep(0), tell_await("wait_for", "@t", 0),
                         odd=asynced(catch(sleep(9), then=(let("f", "fault", "Odd", 3), ("raise", "@f")))))

    def test_without_any_time_it_waits_until_the_thing_is_done(self):
        self.assertEqual([(4, "Task-1", TIMEOUT)], log(
            start("t", "call", "drags"), sleep(1), tell_await("wait_for", "@t", 0),
            drags=asynced(catch(sleep(9), then=(sleep(3), ("raise",))))))

    def test_a_wait_for_that_is_cancelled(self):
        waits = asynced(tell_await("wait_for", "@F", "@n"), params=("n",))
        self.assert_said([fault("CancelledError", "m"), True], F, start("t", "call", "waits", 9), sleep(1),
                         do("cancel", "@t", "m"), sleep(1), tell("cancelled", "@F"), waits=waits)
        drags = asynced(catch(sleep(9), then=(sleep(3),)), say("end"))
        self.assert_said([fault("CancelledError", "m"), "end"], let("c", "call", "drags"), let("F", "task", "@c"),
                         sleep(0), start("t", "call", "waits", 0), sleep(1), do("cancel", "@t", "m"), sleep(9),
                         waits=waits, drags=drags)

    def test_its_callback_is_taken_out(self):
        life = Life(main(F, start("t", "call", "drags"), let("T", "it", "@t"), sleep(0), start("w", "call", "waits"),
                         sleep(1), do("cancel", "@w"), sleep(0), sleep(0), sleep(9),
                         drags=asynced(catch(sleep(9), then=(sleep(30),))), waits=asynced(wait("wait_for", "@T", 0))),
                    ("main",))
        task = None
        for _ in range(9):
            life.turn()
            task = life.loop.shared["T"]
        self.assertEqual([], task.laid)


class TimeoutTest(Case):
    def block(self, call, *steps):
        return catch(("with", "t", call, steps), say("left"))

    def test_a_block_that_ends_in_time(self):
        self.assertEqual([(2, "Task-1", "left"), (2, "Task-1", False), (9, "Task-1")],
                         log(self.block(("timeout", 3), sleep(2)), tell("expired", "@t"), sleep(7), say()))

    def test_a_block_that_does_not(self):
        self.assertEqual([(3, "Task-1", TIMEOUT), (3, "Task-1", True), (3, "Task-1", 0), (3, "Task-1", 3)],
                         log(self.block(("timeout", 3), sleep(5)), tell("expired", "@t"), let("m", "current"),
                             tell("cancelling", "@m"), tell("when", "@t")))
        self.assertEqual([(3, "Task-1", TIMEOUT)], log(sleep(1), self.block(("timeout_at", 3), sleep(5))))

    def test_its_time_is_told_when_it_is_made(self):
        self.assertEqual([(3, "Task-1", TIMEOUT)], log(let("x", "timeout", 3), sleep(1),
                                                       self.block(("it", "@x"), sleep(5))))

    def test_no_time(self):
        for call in (("timeout", None), ("timeout_at", None)):
            self.assertEqual([(9, "Task-1", "left"), (9, "Task-1", None)], log(self.block(call, sleep(9)),
                                                                              tell("when", "@t")))
        for op in ("timeout", "timeout_at"):
            for value in ("a", True, (1,)):
                self.assert_fault("TypeError", op, value)

    def test_a_time_that_has_come_already(self):
        for call in (("timeout", 0), ("timeout", -2), ("timeout_at", 0)):
            self.assertEqual([(0, "Task-1", "in"), (0, "Task-1", TIMEOUT)],
                             log(self.block(call, say("in"), sleep(0), sleep(0), say("never"))))
            self.assertEqual([(0, "Task-1", "left")], log(self.block(call)))

    def test_it_is_entered_once(self):
        self.assert_said(["left", fault("RuntimeError"), fault("RuntimeError")], let("x", "timeout", 5),
                         self.block(("it", "@x")), self.block(("it", "@x")),
                         self.block(("timeout", 4), ("with", None, ("it", "@t"), ())))

    def test_reschedule(self):
        self.assertEqual([(0, "Task-1", None), (0, "Task-1", 2), (2, "Task-1", TIMEOUT)],
                         log(self.block(("timeout", 50), tell("reschedule", "@t", 2), tell("when", "@t"), sleep(9))))
        self.assertEqual([(9, "Task-1", "left")],
                         log(self.block(("timeout", 2), do("reschedule", "@t", None), sleep(9))))
        self.assertEqual([(9, "Task-1", "left")],
                         log(self.block(("timeout", 2), do("reschedule", "@t", 20), sleep(9))))
        self.assertEqual([(1, "Task-1", TIMEOUT)],
                         log(self.block(("timeout", None), sleep(1), do("reschedule", "@t", -4), sleep(9))))

    def test_reschedule_refuses(self):
        for value in (None, 1, "x"):
            self.assert_fault("AttributeError", "reschedule", value, "a")
            self.assert_fault("AttributeError", "expired", value)
        self.assert_fault("AttributeError", "reschedule", "@F", 1, before=(F,))
        self.assert_fault("AttributeError", "expired", "@F", before=(F,))
        for value in ("a", True, ()):
            self.assert_fault("TypeError", "reschedule", "@t", value, before=(let("t", "timeout", 5),))
        runtime = fault("RuntimeError")
        self.assert_said([runtime, "left", runtime, TIMEOUT, runtime], let("x", "timeout", 2),
                         tell("reschedule", "@x", 4), self.block(("it", "@x")), tell("reschedule", "@x", 4),
                         self.block(("timeout", 2), sleep(5)), tell("reschedule", "@t", 4))
        self.assert_said([True, runtime], let("X", "timeout", 1),
                         catch(("with", None, ("it", "@X"), (catch(sleep(5), then=(
                             tell("expired", "@X"), tell("reschedule", "@X", 9), ("raise",))),)), then=()))

    def test_when_and_expired_ahead_of_it(self):
        self.assert_said([7, False], let("x", "timeout", 7), tell("when", "@x"), tell("expired", "@x"))

    def test_another_fault_goes_on_as_it_is(self):
        odd = (let("f", "fault", "Odd"), ("raise", "@f"))
        self.assert_said([fault("Odd"), 0], self.block(("timeout", 1), catch(sleep(9), then=odd)), let("m", "current"),
                         tell("cancelling", "@m"))
        self.assert_said(["left", 0], self.block(("timeout", 1), catch(sleep(9), then=())), let("m", "current"),
                         tell("cancelling", "@m"))

    def test_a_request_from_outside(self):
        blocks = asynced(let("M", "current"), self.block(("timeout", "@n"), sleep(9)), tell("cancelling", "@M"),
                         params=("n",))
        self.assert_said([fault("CancelledError", "m"), 1], start("t", "call", "blocks", 5), sleep(1),
                         do("cancel", "@t", "m"), sleep(1), blocks=blocks)
        # Both requests come in one turn: only the own one is taken back.
        self.assert_said([fault("CancelledError", "late"), 1], start("t", "call", "blocks", 3),
                         do("at", 3, "cancels", "@t"),
                         sleep(9), blocks=blocks, cancels=plain(do("cancel", "@t", "late"), params=("t",)))

    def test_requests_that_were_open_when_it_was_entered(self):
        self.assert_said([CANCELLED, TIMEOUT, 1], let("m", "current"), do("cancel", "@m"), tell_await("sleep", 1),
                         self.block(("timeout", 2), sleep(9)), tell("cancelling", "@m"))

    def test_two_timeouts_in_one_turn(self):
        self.assertEqual([(2, "Task-1", CANCELLED), (2, "Task-1", TIMEOUT), (2, "Task-1", 0)], log(
            self.block(("timeout", 2), catch(("with", None, ("timeout", 2), (sleep(9),)),
                                             then=(say("@e"), ("raise",)))),
            let("m", "current"), tell("cancelling", "@m")))

    def test_it_takes_no_turn(self):
        life = Life(main(("with", None, ("timeout", 5), (say(1),)), say(2)), ("main",))
        life.turn()
        self.assertEqual(2, len(life.log))

    def test_its_timer_is_cancelled(self):
        life = Life(main(("with", None, ("timeout", 50), (sleep(1),)), sleep(9)), ("main",))
        for _ in range(3):
            life.turn()
        self.assertEqual(1, life.loop.dropped_timers)


if __name__ == "__main__":
    unittest.main()
