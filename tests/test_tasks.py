"""Coroutines, tasks, requests to cancel, shields [5.5 to 5.8, 6]."""

import unittest

from loopyard.running import Life
from tests.helper import (
    RAISES, SAYS, Case, asynced, catch, do, fault, let, log, main, plain, report, said, say, sleep, start, tell,
    tell_await, wait,
)

ENDS = asynced(("return", "@n"), params=("n",))
WAITS = asynced(tell_await("it", "@F"))
FUTURE = let("F", "future")
CANCELLED = fault("CancelledError")
RUNTIME = fault("RuntimeError")
ATTRIBUTE = fault("AttributeError")


class CoroutinesTest(Case):
    def test_it_is_carried_out_within_the_task(self):
        self.assertEqual([(0, "Task-1", 1), (2, "Task-1", 2), (2, "Task-1", "v")],
                         log(("await", "r", ("call", "co", "v")), say("@r"),
                             co=asynced(say(1), sleep(2), say(2), ("return", "@v"), params=("v",))))
        self.assert_said([fault("Odd", 4)], tell_await("call", "raises", 4), raises=RAISES)

    def test_it_is_awaited_once(self):
        self.assert_said([1, RUNTIME], let("c", "call", "ends", 1), tell_await("it", "@c"), tell_await("it", "@c"),
                         ends=ENDS)
        self.assert_said([RUNTIME], let("c", "sleep", 0), wait("it", "@c"), tell_await("it", "@c"))

    def test_one_that_is_being_awaited(self):
        self.assert_said([RUNTIME, "end"], let("C", "call", "co"), start("t", "call", "awaits"), sleep(1),
                         tell_await("it", "@C"), sleep(5), awaits=asynced(wait("it", "@C"), say("end")),
                         co=asynced(sleep(3)))
        self.assert_said([RUNTIME], let("C", "call", "co"), wait("it", "@C"), co=asynced(tell_await("it", "@C")))

    def test_faults_go_through_the_calls(self):
        self.assert_said(["last", fault("Odd", 1)], tell_await("call", "outer"), raises=RAISES,
                         outer=asynced(("try", (wait("call", "raises", 1),), (), (), (say("last"),))))

    def test_close(self):
        self.assert_said([None, RUNTIME, None], let("c", "call", "ends", 1), tell("close", "@c"),
                         tell_await("it", "@c"), tell("close", "@c"), ends=ENDS)
        told = report(let("c", "call", "ends", 1), do("close", "@c"), ends=ENDS)
        self.assertEqual([], told.notes)
        self.assert_said([None, "end"], let("C", "call", "co"), start("t", "it", "@C"), sleep(1), tell("close", "@C"),
                         wait("it", "@t"), co=asynced(sleep(3), say("end")))
        for value in (None, 1, "x"):
            self.assert_fault("AttributeError", "close", value)
        self.assert_fault("AttributeError", "close", "@f", before=(let("f", "future"),))


class MakingTasksTest(Case):
    def test_names(self):
        self.assert_said(["Task-2", "own", "Task-3", "", "Task-4"],
                         *[step for name in (None, "own", None, "", None) for step in (
                             let("c", "sleep", 0), let("t", "task", "@c", name), tell("name", "@t"))])
        self.assert_said(["Task-2"], let("c", "sleep", 0), let("t", "task", "@c"), tell("name", "@t"))

    def test_its_first_step_is_put_into_the_ready_queue(self):
        self.assert_said(["main", "soon", "task"], do("soon", "tell", "soon"), start("t", "call", "co"), say("main"),
                         sleep(0), co=asynced(say("task")), tell=SAYS)

    def test_no_coroutine(self):
        for value in (None, 1, "x", ()):
            self.assert_fault("TypeError", "task", value)
            self.assert_fault("TypeError", "ensure", value)
        for maker in (("future",), ("lock",), ("fault", "Odd")):
            self.assert_fault("TypeError", "task", "@x", before=(let("x", *maker),))
        for maker in (("lock",), ("soon", "tell", 1), ("fault", "Odd")):
            self.assertEqual(fault("TypeError"), said(let("x", *maker), tell("ensure", "@x"), tell=SAYS)[0])

    def test_no_name(self):
        for name in (1, True, (), ("a",)):
            self.assert_said([fault("TypeError"), ("Task-1",)], let("c", "sleep", 0), tell("task", "@c", name),
                             let("r", "tasks"), say("@r"))

    def test_ensure(self):
        self.assert_said([True, True, "Task-2", 1], let("f", "future"), let("g", "ensure", "@f"),
                         let("s", "same", "@f", "@g"), say("@s"), let("m", "current"), let("g", "ensure", "@m"),
                         let("s", "same", "@m", "@g"), say("@s"), let("c", "call", "ends", 1), let("t", "ensure", "@c"),
                         say("@t"), tell_await("it", "@t"), ends=ENDS)

    def test_set_result_and_set_exception_of_a_task(self):
        for task in ((let("t", "current"),), (start("t", "sleep", 0), sleep(1))):
            self.assert_said([RUNTIME] * 3, let("x", "fault", "Odd"), *task, tell("set_result", "@t", 1),
                             tell("set_exception", "@t", "@x"), tell("set_exception", "@t", 1))

    def test_current(self):
        self.assertEqual([(0, "Task-1", "Task-1"), (0, None, None), (0, "Task-2", "Task-2")],
                         log(do("soon", "asks"), start("t", "call", "co"), do("call", "asks"), sleep(0),
                             asks=plain(let("m", "current"), say("@m")), co=asynced(do("call", "asks"))))

    def test_tasks(self):
        self.assert_said([("Task-1", "b", "a"), ("Task-1", "a"), ("Task-1",)],
                         let("c", "sleep", 1), do("task", "@c", "b"), let("c", "sleep", 3), do("task", "@c", "a"),
                         tell("tasks"), sleep(2), tell("tasks"), sleep(3), tell("tasks"))

    def test_name_of_what_is_no_task(self):
        for value in (None, 1, "x"):
            self.assert_fault("AttributeError", "name", value)
        self.assert_fault("AttributeError", "name", "@f", before=(let("f", "future"),))


class StepsOfTasksTest(Case):
    def test_a_task_of_a_coroutine_that_was_awaited(self):
        self.assert_said([RUNTIME], let("c", "call", "ends", 1), wait("it", "@c"), let("t", "task", "@c"),
                         tell_await("it", "@t"), ends=ENDS)
        self.assert_said([RUNTIME], let("c", "call", "ends", 1), let("t", "task", "@c"), wait("it", "@c"),
                         tell_await("it", "@t"), ends=ENDS)

    def test_it_ends_so_even_if_it_is_cancelled_ahead(self):
        self.assert_said([True, RUNTIME, False], let("c", "call", "ends", 1), let("t", "task", "@c"),
                         wait("it", "@c"), tell("cancel", "@t"), tell_await("it", "@t"), tell("cancelled", "@t"),
                         ends=ENDS)

    def test_the_end_of_a_task(self):
        self.assert_said([3, False, None], start("t", "call", "ends", 3), tell_await("it", "@t"),
                         tell("cancelled", "@t"), tell("exception", "@t"), ends=ENDS)
        self.assert_said([fault("Odd", 3), False, fault("Odd", 3)], start("t", "call", "raises", 3),
                         tell_await("it", "@t"), tell("cancelled", "@t"), tell("exception", "@t"), raises=RAISES)

    def test_awaiting_its_own_task(self):
        self.assertEqual([(0, "Task-1", "set"), (0, None, "soon"), (0, "Task-1", RUNTIME)],
                         log(let("m", "current"), do("soon", "tell", "soon"), say("set"), tell_await("it", "@m"),
                             tell=SAYS))

    def test_great_faults_end_the_task_and_the_run(self):
        for kind in ("SystemExit", "KeyboardInterrupt"):
            told = report(start("t", "call", "ends"), tell_await("it", "@t"),
                          ends=asynced(let("f", "fault", kind, 1), ("raise", "@f")))
            self.assertEqual(("fault", fault(kind, 1)), told.outcome)
            self.assertEqual([(0, "Task-1", CANCELLED)], told.log)
            self.assertEqual([], told.notes)

    def test_a_pause(self):
        self.assert_said(["main", 1, "main", 2], do("soon", "tell", 1), say("main"), sleep(0), do("soon", "tell", 2),
                         say("main"), sleep(0), tell=SAYS)


class CancelTest(Case):
    def test_a_task_that_waits(self):
        self.assert_said([True, 1, True, fault("CancelledError", "m"), 1, True],
                         FUTURE, start("t", "call", "waits"), sleep(0), tell("cancel", "@t", "m"),
                         tell("cancelling", "@t"), tell("cancelled", "@F"), sleep(0), tell("cancelling", "@t"),
                         tell("done", "@t"), waits=WAITS)

    def test_a_task_that_is_done(self):
        self.assert_said([False, 0, 1], start("t", "call", "ends", 1), sleep(0), tell("cancel", "@t"),
                         tell("cancelling", "@t"), tell("result", "@t"), ends=ENDS)

    def test_a_task_that_has_not_begun(self):
        told = report(start("t", "call", "never"), tell("cancel", "@t", "m"), tell_await("it", "@t"),
                      tell("cancelled", "@t"), never=asynced(say("never")))
        self.assertEqual([True, fault("CancelledError", "m"), True], [row[2] for row in told.log])
        self.assertEqual([], told.notes)

    def test_a_task_whose_future_is_done_is_marked(self):
        self.assert_said([True, fault("CancelledError", "m"), 5], FUTURE, start("t", "call", "waits"), sleep(0),
                         do("set_result", "@F", 5), tell("cancel", "@t", "m"), sleep(0), tell("result", "@F"),
                         waits=WAITS)

    def test_the_mark_takes_the_place_of_a_fault(self):
        told = report(FUTURE, let("x", "fault", "Odd"), start("t", "call", "waits"), sleep(0),
                      do("set_exception", "@F", "@x"), do("cancel", "@t", "m"), sleep(0), waits=WAITS)
        self.assertEqual([fault("CancelledError", "m")], [row[2] for row in told.log])
        self.assertEqual([], told.notes)

    def test_the_mark_does_not_take_the_place_of_a_cancelled_error(self):
        self.assert_said([fault("CancelledError", "own")], FUTURE, start("t", "call", "waits"), sleep(0),
                         do("cancel", "@F", "own"), do("cancel", "@t", "m"), sleep(0), waits=WAITS)

    def test_each_request_counts(self):
        self.assert_said([True, True, 2, fault("CancelledError", "b"), 2], FUTURE,
                         start("t", "call", "waits"), sleep(0), do("set_result", "@F", 1), tell("cancel", "@t", "a"),
                         tell("cancel", "@t", "b"), tell("cancelling", "@t"), sleep(0), tell("cancelling", "@t"),
                         waits=WAITS)

    def test_a_second_request_reaches_the_next_wait(self):
        twice = asynced(tell_await("sleep", 9), tell_await("sleep", 9), say("end"))
        self.assert_said([True, CANCELLED, True, CANCELLED, "end"], start("t", "call", "twice"), sleep(0),
                         tell("cancel", "@t"), sleep(0), tell("cancel", "@t"), sleep(0), twice=twice)
        self.assert_said([True, True, CANCELLED, CANCELLED, "end"], start("t", "call", "twice"), sleep(0),
                         tell("cancel", "@t"), tell("cancel", "@t"), sleep(0), sleep(0), twice=twice)

    def test_a_request_that_is_handled_leaves_the_count(self):
        self.assert_said([CANCELLED, 1, "on"], start("t", "call", "handles"), sleep(0), do("cancel", "@t"), sleep(1),
                         handles=asynced(let("m", "current"), tell_await("sleep", 9), tell("cancelling", "@m"),
                                         sleep(1), say("on")))

    def test_of_itself(self):
        self.assert_said([True, fault("CancelledError", "m"), "on"], let("m", "current"), tell("cancel", "@m", "m"),
                         tell_await("sleep", 3), say("on"))
        self.assertEqual([(0, "Task-1", fault("CancelledError", "m"))],
                         log(let("m", "current"), do("cancel", "@m", "m"), tell_await("sleep", 3)))

    def test_a_marked_task_that_awaits_an_open_future(self):
        self.assert_said([fault("CancelledError", "m"), True, 1], FUTURE, let("m", "current"),
                         do("cancel", "@m", "m"), tell_await("it", "@F"), tell("cancelled", "@F"), sleep(0),
                         tell("cancelling", "@m"))

    def test_a_marked_task_that_pauses_is_told_in_its_next_step(self):
        self.assert_said(["a", fault("CancelledError", "m")], let("m", "current"), do("cancel", "@m", "m"), say("a"),
                         tell_await("sleep", 0))

    def test_a_marked_task_that_awaits_what_is_done_goes_on(self):
        self.assert_said([4, CANCELLED], FUTURE, do("set_result", "@F", 4), let("m", "current"), do("cancel", "@m"),
                         tell_await("it", "@F"), tell_await("sleep", 0))

    def test_a_marked_task_that_ends_with_a_value_is_cancelled(self):
        ends = asynced(let("m", "current"), do("cancel", "@m", "m"), ("return", 5))
        told = fault("CancelledError", "m")
        self.assert_said([told, True, told, told], start("t", "call", "ends"), tell_await("it", "@t"),
                         tell("cancelled", "@t"), tell("result", "@t"), tell("exception", "@t"), ends=ends)
        self.assert_said([False], start("t", "call", "ends"), sleep(0),
                         catch(do("result", "@t"), then=(let("a", "it", "@e"),)),
                         catch(do("result", "@t"), then=(tell("same", "@a", "@e"),)), ends=ends)

    def test_a_marked_task_that_ends_with_a_fault(self):
        ends = asynced(let("m", "current"), do("cancel", "@m", "m"), let("f", "fault", "Odd"), ("raise", "@f"))
        self.assert_said([fault("Odd"), False], start("t", "call", "ends"), tell_await("it", "@t"),
                         tell("cancelled", "@t"), ends=ends)

    def test_the_own_cancelled_error_goes_to_the_first_who_asks(self):
        ends = asynced(let("f", "fault", "CancelledError", "own", 2), ("raise", "@f"))
        own = fault("CancelledError", "own", 2)
        for first in (tell_await("it", "@t"), tell("result", "@t"), tell("exception", "@t")):
            self.assert_said([own, CANCELLED, CANCELLED, True], start("t", "call", "ends"), sleep(1), first,
                             tell("result", "@t"), tell("exception", "@t"), tell("cancelled", "@t"), ends=ends)

    def test_it_forgets_its_message(self):
        self.assert_said([fault("CancelledError", "m"), CANCELLED], start("t", "sleep", 9), sleep(0),
                         do("cancel", "@t", "m"), sleep(0), tell("result", "@t"), tell("result", "@t"))

    def test_the_one_who_waits_is_the_first(self):
        self.assert_said([fault("CancelledError", "m"), CANCELLED], let("c", "sleep", 9), let("F", "task", "@c"),
                         start("t", "call", "waits"), sleep(0), do("cancel", "@F", "m"), *[sleep(0)] * 3,
                         tell("result", "@F"), waits=WAITS)

    def test_a_request_goes_on_to_the_task_that_is_awaited(self):
        waits = asynced(tell_await("it", "@t"), params=("t",))
        self.assert_said([True, 1, 1, 1, True, False, fault("CancelledError", "m"), CANCELLED],
                         start("a", "sleep", 9), start("b", "call", "waits", "@a"), start("c", "call", "waits", "@b"),
                         sleep(0), tell("cancel", "@c", "m"), tell("cancelling", "@a"), tell("cancelling", "@b"),
                         tell("cancelling", "@c"), sleep(0), tell("cancelled", "@a"), tell("done", "@c"),
                         waits=waits)

    def test_of_what_is_no_task(self):
        for value in (None, 1, "x"):
            self.assert_fault("AttributeError", "cancelling", value)
            self.assert_fault("AttributeError", "uncancel", value)
        for maker in (("future",), ("lock",)):
            self.assert_fault("AttributeError", "cancelling", "@x", before=(let("x", *maker),))
            self.assert_fault("AttributeError", "uncancel", "@x", before=(let("x", *maker),))

    def test_long_chains_of_tasks(self):
        waits = asynced(wait("it", "@t"), params=("t",))
        self.assert_said([True, 1, True], let("F", "it", 0), let("c", "sleep", 9), let("t", "task", "@c"),
                         let("f", "it", "@t"), ("each", "k", tuple(range(400)), (start("t", "call", "waits", "@t"),)),
                         sleep(0), tell("cancel", "@t"), tell("cancelling", "@f"), sleep(1), tell("cancelled", "@f"),
                         waits=waits)


class UncancelTest(Case):
    def test_it_gives_the_count(self):
        self.assert_said([0, 1, 0, 0], let("m", "current"), tell("uncancel", "@m"), do("cancel", "@m"),
                         do("cancel", "@m"), tell("uncancel", "@m"), tell("uncancel", "@m"), tell("uncancel", "@m"))

    def test_the_mark_is_taken_away_at_0(self):
        self.assert_said([0, None], let("m", "current"), do("cancel", "@m"), tell("uncancel", "@m"),
                         tell_await("sleep", 0))
        self.assert_said([1, CANCELLED], let("m", "current"), do("cancel", "@m"), do("cancel", "@m"),
                         tell("uncancel", "@m"), tell_await("sleep", 0))

    def test_what_was_cancelled_in_its_place_stays_so(self):
        self.assert_said([True, 0, CANCELLED], FUTURE, start("t", "call", "waits"), sleep(0), tell("cancel", "@t"),
                         tell("uncancel", "@t"), sleep(0), waits=WAITS)

    def test_a_task_that_is_done_keeps_its_count(self):
        self.assert_said([1, 0], start("t", "sleep", 9), sleep(0), do("cancel", "@t"), sleep(1),
                         tell("cancelling", "@t"), tell("uncancel", "@t"))

    def test_a_mark_that_came_in_the_step_of_a_count_of_0_stays(self):
        # The count comes to 0 only once: one more uncancel does not take a later mark away.
        self.assert_said([0, 0, None], let("m", "current"), do("cancel", "@m"), tell("uncancel", "@m"),
                         tell("uncancel", "@m"), tell_await("sleep", 0))


class ShieldTest(Case):
    def test_of_one_that_is_done_and_of_a_coroutine(self):
        self.assert_said([True], FUTURE, do("set_result", "@F", 1), let("s", "shield", "@F"), tell("same", "@s", "@F"))
        self.assert_said(["Future-1", 4, ("Task-1",)], let("c", "call", "ends", 4), let("s", "shield", "@c"),
                         say("@s"), tell_await("it", "@s"), tell("tasks"), ends=ENDS)
        for value in (None, 1, "x", ()):
            self.assert_fault("TypeError", "shield", value)
        self.assert_fault("TypeError", "shield", "@x", before=(let("x", "lock"),))

    def test_the_outer_one_gets_what_the_inner_gets_a_turn_later(self):
        life = Life(main(FUTURE, let("S", "shield", "@F"), do("set_result", "@F", 3), do("soon", "asks"),
                         sleep(0), tell("result", "@S"), asks=plain(tell("done", "@S"))), ("main",))
        for _ in range(2):
            life.turn()
        self.assertEqual([True, 3], [row[2] for row in life.log])
        odd = fault("Odd", 1)
        self.assert_said([odd, odd], FUTURE, let("x", "fault", "Odd", 1), let("s", "shield", "@F"),
                         do("set_exception", "@F", "@x"), tell_await("it", "@s"), tell("result", "@s"))
        self.assert_said([CANCELLED, True], FUTURE, let("s", "shield", "@F"), do("cancel", "@F", "m"),
                         tell_await("it", "@s"), tell("cancelled", "@s"))

    def test_a_task_is_cancelled_without_what_it_shields(self):
        self.assert_said([CANCELLED, False, 7], let("c", "sleep", 5, 7), let("F", "task", "@c"),
                         start("t", "call", "shields"), sleep(1), do("cancel", "@t"), sleep(1), tell("done", "@F"),
                         tell_await("it", "@F"), shields=asynced(tell_await("shield", "@F")))

    def test_which_fault_counts_as_seen(self):
        def notes(*steps):
            told = report(FUTURE, let("x", "fault", "Odd"), let("s", "shield", "@F"), *steps)
            return [(note[1], note[2]) for note in told.notes]
        unseen = "Future exception was never retrieved"
        self.assertEqual([(unseen, "Future-1")], notes(do("set_exception", "@F", "@x"), sleep(0), say("@s")))
        self.assertEqual([(unseen, "Future-1")], notes(do("set_exception", "@F", "@x"), sleep(1), say("@s")))
        self.assertEqual([], notes(do("cancel", "@s"), do("set_exception", "@F", "@x"), sleep(1)))
        self.assertEqual([(unseen, "Future-1")], notes(do("cancel", "@s"), sleep(1), do("set_exception", "@F", "@x"),
                                                       sleep(1), say("@F")))

    def test_an_outer_one_that_was_given_something_by_hand(self):
        for call in (("set_result", "@F", 1), ("set_exception", "@F", "@x")):
            told = report(FUTURE, let("x", "fault", "Odd"), let("s", "shield", "@F"), do(*call),
                          do("set_result", "@s", 2), sleep(1), tell("result", "@s"))
            self.assertEqual([2], [row[2] for row in told.log])
            self.assertEqual([(0, "Exception in callback shield", "shield", fault("InvalidStateError"))], told.notes)
        told = report(FUTURE, let("s", "shield", "@F"), do("cancel", "@F"), do("set_result", "@s", 2), sleep(1))
        self.assertEqual([], told.notes)
        told = report(FUTURE, let("s", "shield", "@F"), do("set_result", "@s", 2), sleep(1), do("cancel", "@F"))
        self.assertEqual([], told.notes)

    def test_an_open_inner_one_forgets_the_outer_one(self):
        told = report(FUTURE, let("s", "shield", "@F"), do("set_result", "@s", 2), sleep(1), do("set_result", "@F", 1),
                      sleep(1))
        self.assertEqual([], told.notes)


if __name__ == "__main__":
    unittest.main()
