"""Details of several stages that other tests pass over: what is left behind, and what is not told twice."""

import unittest

from loopyard.running import Life
from tests.helper import (
    SAYS, Case, asynced, catch, do, fault, let, log, main, plain, report, said, say, sleep, start, tell, tell_await,
    wait,
)

CANCELLED = fault("CancelledError")
OWN = fault("CancelledError", "m")
RUNTIME = fault("RuntimeError")
ODD = (let("f", "fault", "Odd", 1), ("raise", "@f"))
F = let("F", "future")
MESSAGE = "unhandled errors in a TaskGroup"
TRIES = asynced(catch(("await", "v", ("acquire", "@X")), say("@n", "@v")), params=("n",))
GETS = asynced(catch(("await", "v", ("get", "@Q")), say("@n", "@v")), params=("n",))


def group(*steps):
    return catch(("with", "g", ("group",), steps), say("left"))


def begin(*call):
    return ("if", ("it", 1), (let("c", *call), let("s", "start", "@g", "@c")), ())


def live(turns, *steps, **routines):
    life = Life(main(*steps, **routines), ("main",))
    for _ in range(turns):
        life.turn()
    return life


class RoutinesTest(Case):
    def test_which_variables_are_shared(self):
        names = ("A", "Ab", "Z", "Zz", "a", "z")
        reads = plain(*[tell("it", f"@{name}") for name in names])
        self.assert_said([1, 1, 1, 1, fault("NameError"), fault("NameError")], *[let(name, "it", 1) for name in names],
                         do("call", "reads"), reads=reads)

    def test_awaiting_behind_a_call_of_a_plain_routine(self):
        self.assert_said([(3, "v"), (fault("Odd", 1), "w")], let("a", "call", "three"),
                         ("await", "b", ("sleep", 1, "v")), say("@a", "@b"),
                         catch(do("call", "odd"), then=(let("a", "it", "@e"),)), ("await", "b", ("sleep", 1, "w")),
                         say("@a", "@b"), three=plain(("return", 3)), odd=plain(*ODD))
        self.assert_said([fault("Odd", 1)], do("call", "three"), tell_await("call", "co"), three=plain(("return", 3)),
                         co=asynced(*ODD))

    def test_handlers_take_no_return_and_no_break(self):
        handlers = ((("BaseException",), None, (say("never"),)),)
        self.assert_said([5, "end"], tell("call", "five"), ("while", ("it", 1), (("try", (("break",),), handlers, (), ()),)),
                         say("end"), five=plain(("try", (("return", 5),), handlers, (), ())))

    def test_a_fault_behind_a_last_body_is_handled_no_longer(self):
        self.assert_said([fault("Odd", 1), RUNTIME], catch(("try", ODD, (), (), ())), catch(("raise",)))
        self.assert_said([RUNTIME], ("while", ("it", 1), (("try", ODD, (), (), (("break",),)),)), catch(("raise",)))


class CancelDetailsTest(Case):
    def test_a_mark_is_told_once(self):
        self.assert_said([OWN, None, None], let("m", "current"), do("cancel", "@m", "m"), tell_await("sleep", 0),
                         tell_await("sleep", 0), tell_await("sleep", 1))

    def test_a_marked_task_that_awaits_a_task_which_swallows_its_cancel(self):
        swallows = asynced(catch(sleep(9), then=()), ("return", 7))
        self.assert_said([7, None], start("t", "call", "swallows"), sleep(0), let("m", "current"), do("cancel", "@m"),
                         tell_await("it", "@t"), tell_await("sleep", 0), swallows=swallows)

    def test_a_task_that_pauses_behind_a_wait_waits_for_nothing(self):
        told = report(F, do("soon", "sets"), wait("it", "@F"), ("while", ("it", 1), (sleep(0),)), turns=6,
                      sets=plain(do("set_result", "@F", 1)))
        self.assertEqual([("Task-1", None)], told.waiting)

    def test_one_child_that_agrees_is_enough(self):
        for first, last in (("@F", "@G"), ("@G", "@F")):
            self.assert_said([True, True], F, let("G", "future"), let("g", "gather", (first, last)),
                             do("set_result", "@G", 1), tell("cancel", "@g", "m"), tell("cancelled", "@F"))

    def test_it_has_been_asked_for_good(self):
        self.assert_said([True, False, OWN], F, let("g", "gather", ("@F",), True), tell("cancel", "@g", "m"),
                         tell("cancel", "@g", "late"), tell_await("it", "@g"))

    def test_a_second_request_reaches_the_children_again(self):
        twice = asynced(catch(sleep(9), then=()), catch(sleep(9)), ("return", 1))
        self.assert_said([True, True, fault("CancelledError", "b"), 2, CANCELLED], start("t", "call", "twice"), sleep(0),
                         let("g", "gather", ("@t",)), tell("cancel", "@g", "a"), sleep(0), tell("cancel", "@g", "b"),
                         sleep(1), tell("cancelling", "@t"), tell_await("it", "@g"), twice=twice)

    def test_one_that_is_done_asks_no_child(self):
        self.assert_said([fault("Odd", 1), False, 0, 5], start("t", "call", "five"), start("o", "call", "odd"),
                         let("g", "gather", ("@t", "@o")), tell_await("it", "@g"), tell("cancel", "@g"),
                         tell("cancelling", "@t"), tell_await("it", "@t"), odd=asynced(*ODD),
                         five=asynced(sleep(3), ("return", 5)))

    def test_the_own_fault_of_the_last_child(self):
        own = asynced(catch(sleep(9), then=(let("f", "fault", "CancelledError", "own", 2), ("raise", "@f"))))
        self.assert_said([True, fault("CancelledError", "own", 2), CANCELLED], start("t", "call", "own"), sleep(0),
                         let("g", "gather", ("@t",), True), tell("cancel", "@g", "m"), tell_await("it", "@g"),
                         tell("result", "@t"), own=own)

    def test_a_ring_through_a_gathering_future_ends(self):
        # Nothing is promised for it, but a request must not run for ever.
        told = report(let("c", "call", "waits"), let("T", "task", "@c"), let("G", "gather", ("@T",)), sleep(0), sleep(0),
                      do("cancel", "@T"), say("end"), turns=20, waits=asynced(wait("it", "@G")))
        self.assertEqual(["end"], [row[2] for row in told.log])


class LoopDetailsTest(Case):
    def test_timers_that_stay_in_a_sweep_are_counted_when_they_are_cancelled(self):
        steps = [let("Hs", "it", ()), ("each", "k", tuple(range(110)), (
            let("h", "at", 50, "tell", "@k"), let("Hs", "add", "@Hs", ("@h",))))]
        steps += [("each", "k", tuple(range(1, 80)), (let("h", "item", "@Hs", "@k"), do("cancel", "@h"))), sleep(0), sleep(0)]
        steps += [let("h", "item", "@Hs", 90), do("cancel", "@h"), sleep(1)]
        life = live(2, *steps, tell=SAYS)
        self.assertEqual((0, 31), (life.loop.dropped_timers, len(life.loop.heap)))
        life.turn()
        self.assertEqual((1, 32), (life.loop.dropped_timers, len(life.loop.heap)))

    def test_a_source_at_which_nothing_ever_arrives(self):
        rows = log(do("reader", "none", "tell", 1), do("reader", "s", "tell", 2), sleep(3), tell("read", "none"),
                   do("unread", "s"), say("end"), tell=SAYS, outside=((5, "s", 1),))
        self.assertEqual([fault("BlockingIOError"), "end"], [row[2] for row in rows])

    def test_a_loop_that_is_closed_has_nothing_left(self):
        life = live(30, do("soon", "again"), do("at", 99, "again"), again=plain(do("soon", "again")))
        self.assertEqual((False, [], []), (life.turn(), life.loop.ready, life.loop.heap))
        notes = list(life.notes)
        life.loop.close()
        self.assertEqual(notes, life.notes)


class WaitDetailsTest(Case):
    def test_a_timeout_of_1(self):
        self.assertEqual([(0, "Task-1", "v")], log(let("c", "sleep", 0, "v"), tell_await("wait_for", "@c", 1)))
        self.assertEqual([(1, "Task-1", fault("TimeoutError"))], log(F, tell_await("wait_for", "@F", 1)))

    def test_a_wait_for_in_time_leaves_no_timer(self):
        self.assertEqual([(1, "Task-1", None), (9, "Task-1", "end")],
                         log(let("c", "sleep", 1), tell_await("wait_for", "@c", 3), sleep(8), say("end")))

    def test_the_timer_of_a_wait_is_cancelled_by_the_callback(self):
        life = live(2, F, do("at", 5, "tell", 1), do("set_result", "@F", 1), wait("wait", ("@F",), 50), tell=SAYS)
        self.assertEqual((1, 2), (life.loop.dropped_timers, len(life.loop.heap)))

    def test_a_wait_that_is_cancelled_leaves_nothing(self):
        life = live(4, F, do("at", 5, "tell", 1), start("t", "call", "waits"), sleep(0), do("cancel", "@t"), sleep(9),
                    waits=asynced(catch(wait("wait", ("@F",), 50))), tell=SAYS)
        self.assertEqual(([], 1), (life.loop.shared["F"].laid, life.loop.dropped_timers))

    def test_a_coroutine_that_stands_twice_in_as_completed(self):
        self.assert_said([("Task-1", "Task-2"), 4, "end"], let("c", "sleep", 1, 4), let("e", "as_completed", ("@c", "@c")),
                         tell("tasks"), ("each", "d", "@e", (tell_await("it", "@d"),)), say("end"))

    def test_an_empty_each_has_no_timer(self):
        told = report(let("e", "as_completed", (), 3), F, wait("it", "@F"))
        self.assertEqual((("stuck",), 0), (told.outcome, told.now))

    def test_a_future_that_ends_in_the_turn_of_the_timeout(self):
        told = report(F, do("at", 2, "sets"), let("e", "as_completed", ("@F",), 2),
                      ("each", "c", "@e", (tell_await("it", "@c"),)), sleep(2), sets=plain(do("set_result", "@F", 1)))
        self.assertEqual(([(2, "Task-1", fault("TimeoutError"))], []), (told.log, told.notes))

    def test_a_time_that_has_come_already_is_put_into_the_ready_queue(self):
        probe = plain(tell("expired", "@T"))
        for call in (("timeout", 0), ("timeout_at", 0), ("timeout_at", -3)):
            rows = said(catch(("with", "T", call, (do("soon", "probe"), sleep(5)))), probe=probe)
            self.assertEqual([True, fault("TimeoutError")], rows)
        rows = said(catch(("with", "T", ("timeout", 5), (sleep(1), do("reschedule", "@T", 1), do("soon", "probe"),
                                                         sleep(5)))), probe=probe)
        self.assertEqual([True, fault("TimeoutError")], rows)


class GroupDetailsTest(Case):
    def test_start_of_what_is_no_coroutine(self):
        for value in (None, 1, "x", "@g", "@f"):
            self.assert_said([fault("TypeError")], let("f", "future"), let("g", "group"), tell("start", "@g", value))
            self.assert_said([fault("TypeError"), "left"], let("f", "future"), group(tell("start", "@g", value)))

    def test_a_parent_that_is_cancelled_when_the_last_task_ends(self):
        holds = asynced(group(begin("sleep", 3)))
        told = report(start("T", "call", "holds"), sleep(2), do("at", 3, "cancels_soon"), sleep(9), holds=holds,
                      cancels_soon=plain(do("soon", "cancels")), cancels=plain(do("soon", "cancel_now")),
                      cancel_now=plain(do("cancel", "@T", "m")))
        self.assertEqual([], told.notes)
        told = report(start("T", "call", "holds"), sleep(2), do("at", 3, "cancels"), sleep(9), holds=holds,
                      cancels=plain(do("soon", "cancel_now")), cancel_now=plain(do("cancel", "@T", "m")))
        self.assertEqual([], told.notes)

    def test_the_parent_waits_for_one_future_until_all_are_done(self):
        life = live(2, group(let("G", "it", "@g"), begin("sleep", 1), begin("sleep", 5)))
        waiter = life.loop.shared["G"].waiter
        while len(life.loop.shared["G"].members) == 2:
            life.turn()
        self.assertIs(waiter, life.loop.shared["G"].waiter)
        self.assertEqual(0, waiter.state)

    def test_a_second_fault_asks_nobody(self):
        late = asynced(catch(sleep(9), then=(let("f", "fault", "Late"), ("raise", "@f"))))
        life = live(9, group(let("G", "it", "@g"), begin("call", "late"), begin("sleep", 1), sleep(1), *ODD), sleep(50),
                    late=late)
        self.assertEqual([fault("ExceptionGroup", MESSAGE, (fault("Late"), fault("Odd", 1)))],
                         [row[2] for row in life.log])
        made = life.loop.shared["G"]
        self.assertEqual((False, True, None), (made.asked, made.aborting, made.great))

    def test_the_first_great_fault(self):
        # A task ends the run; behind it the block is cancelled, and raises another great fault.
        great = asynced(sleep(1), let("f", "fault", "SystemExit", 1), ("raise", "@f"))
        other = (let("f", "fault", "KeyboardInterrupt", 2), ("raise", "@f"))
        told = report(group(let("G", "it", "@g"), begin("call", "great"), catch(sleep(9), then=other)), say("on"),
                      great=great)
        self.assertEqual([fault("SystemExit", 1), "on"], [row[2] for row in told.log])
        told = report(group(begin("call", "great"), sleep(9)), say("on"), great=great)
        self.assertEqual([fault("SystemExit", 1), "on"], [row[2] for row in told.log])

    def test_the_group_forgets_its_great_fault(self):
        life = live(3, group(let("G", "it", "@g"), let("f", "fault", "SystemExit"), ("raise", "@f")), sleep(5))
        self.assertIsNone(life.loop.shared["G"].great)


class RowDetailsTest(Case):
    def test_waiters_leave_their_rows(self):
        for maker, wakes in (("event", ("set", "@X")), ("condition", ("notify_all", "@X"))):
            waits = asynced(("with", None, ("it", "@X"), (wait("wait_on", "@X"),)) if maker == "condition"
                            else wait("wait_on", "@X"))
            lock = (wait("acquire", "@X"),) if maker == "condition" else ()
            free = (do("release", "@X"),) if maker == "condition" else ()
            life = live(6, let("X", maker), start("t", "call", "waits"), sleep(1), *lock, do(*wakes), *free, sleep(9),
                        waits=waits)
            self.assertEqual([], life.loop.shared["X"].row)
        life = live(4, let("Q", "queue"), do("put_nowait", "@Q", 1), start("t", "join", "@Q"), sleep(0),
                    do("task_done", "@Q"), sleep(9))
        self.assertEqual([], life.loop.shared["Q"].joiners)

    def test_who_goes_on_with_a_fault_notifies_just_one(self):
        waits = asynced(("with", None, ("it", "@X"), (catch(wait("wait_on", "@X"), say("@n")),)), params=("n",))
        life = live(6, let("X", "condition"), *[start(f"t{n}", "call", "waits", n) for n in (1, 2, 3)], sleep(0), sleep(0),
                    do("cancel", "@t1", "m"), sleep(9), waits=waits)
        self.assertEqual([OWN, 2], [row[2] for row in life.log])

    def test_a_semaphore_of_1_lets_one_in_at_a_time(self):
        takes = asynced(("with", None, ("it", "@X"), (say("in", "@n"), sleep(2), say("out", "@n"))), params=("n",))
        for maker in ("semaphore", "bounded"):
            self.assert_said([(word, n) for n in (1, 2, 3) for word in ("in", "out")], let("X", maker),
                             *[start("t", "call", "takes", n) for n in (1, 2, 3)], wait("it", "@t"), takes=takes)

    def test_who_goes_on_wakes_several(self):
        life = live(4, let("X", "semaphore", 0), start("t", "call", "tries", 1), sleep(0), do("soon", "frees"),
                    start("t", "call", "tries", 2), start("t", "call", "tries", 3), sleep(9), tries=TRIES,
                    frees=plain(*[do("release", "@X")] * 3))
        self.assertEqual([1], [row[2] for row in life.log])
        life.turn()
        self.assertEqual([1, 2, 3], [row[2] for row in life.log])

    def test_who_comes_while_a_barrier_resets_waits(self):
        comes = asynced(catch(("await", "v", ("wait_on", "@X")), say("@n", "@v")), params=("n",))
        broken = fault("BrokenBarrierError")
        rows = said(let("X", "barrier", 3), start("t", "call", "comes", 1), start("t", "call", "comes", 2), sleep(1),
                    start("r", "reset", "@X"), start("t", "call", "comes", 3), sleep(1), tell("waiting", "@X"),
                    start("t", "call", "comes", 4), start("t", "call", "comes", 5), sleep(1), comes=comes)
        self.assertEqual([broken, broken, 1, (5, 2), (3, 0), (4, 1)], rows)

    def test_a_get_that_gives_up_wakes_nobody_for_nothing(self):
        # The item is gone when the first one gives up: the others keep their places.
        self.assert_said([OWN, (2, "b"), (3, "c")], let("Q", "queue"), *[start(f"t{n}", "call", "gets", n) for n in (1, 2, 3)],
                         sleep(0), do("put_nowait", "@Q", "a"), do("cancel", "@t1", "m"), do("get_nowait", "@Q"), sleep(1),
                         do("put_nowait", "@Q", "b"), sleep(1), do("put_nowait", "@Q", "c"), sleep(1), gets=GETS)

    def test_a_get_that_was_not_woken_hands_nothing_on(self):
        # The second is cancelled, not woken; when it gives up there is an item, which the third was woken for.
        self.assert_said([(1, "a"), OWN, (3, "b"), (4, "c"), (5, "d")], let("Q", "queue"),
                         *[start(f"t{n}", "call", "gets", n) for n in (1, 2, 3, 4, 5)], sleep(0),
                         do("put_nowait", "@Q", "a"), do("cancel", "@t2", "m"), do("put_nowait", "@Q", "b"), sleep(1),
                         do("put_nowait", "@Q", "c"), sleep(1), do("put_nowait", "@Q", "d"), sleep(1), gets=GETS)

    def test_tuples_and_what_is_none_in_a_priority_queue(self):
        for one, other in (((1,), 1), (1, (1,)), ("a", ("a",)), ((), 0), (0, ())):
            self.assert_said([fault("TypeError")], let("Q", "priority_queue"), do("put_nowait", "@Q", one),
                             tell("put_nowait", "@Q", other))

    def test_equal_tuples_are_not_less(self):
        rows = said(let("Q", "priority_queue"), do("put_nowait", "@Q", (1,)), do("put_nowait", "@Q", (True,)),
                    tell("get_nowait", "@Q"), tell("get_nowait", "@Q"))
        self.assertEqual([int, bool], [type(row[0]) for row in rows])


class RunDetailsTest(Case):
    def test_the_run_behind_main_waits_for_all_that_is_left(self):
        drags = asynced(catch(sleep(99), then=()), sleep("@n"), say("@n"), params=("n",))
        told = report(start("t", "call", "drags", 2), start("t", "call", "drags", 5), sleep(0), drags=drags)
        self.assertEqual(([2, 5], []), ([row[2] for row in told.log], told.notes))

    def test_the_end_of_a_run_is_taken_back(self):
        # Main is stopped, not done: when it ends in the next run, this run goes on for what is left.
        drags = asynced(catch(sleep(99), then=()), sleep(4), say("end"))
        told = report(start("t", "call", "drags"), sleep(1), do("stop"), sleep(1), drags=drags)
        self.assertEqual((("fault", RUNTIME), ["end"], []), (told.outcome, [row[2] for row in told.log], told.notes))


if __name__ == "__main__":
    unittest.main()
