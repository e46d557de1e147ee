"""Sessions: loops that their users run [11.8, 11.9], with what is told of runs and closing [11.1, 11.2, 11.5 to 11.7]."""

import inspect
import unittest

from loopyard.errors import BadProgram, BadValue, LoopError, Raised, Stuck, TooLong
from loopyard.program import Program
from loopyard.running import Life
from loopyard.sessions import Session
from tests.helper import RAISES, SAYS, asynced, do, fault, let, plain, say, sleep, start, wait

NEVER = asynced(let("f", "future"), wait("it", "@f"))
WAITS = asynced(("await", "v", ("it", "@F")), say("woken", "@v"))
SLEEPS = asynced(sleep("@n"), say("slept", "@n"), ("return", "@n"), params=("n",))
STOPS = asynced(do("stop"))
EXITS = plain(let("x", "fault", "SystemExit", "now"), ("raise", "@x"))
CLOSED = ("fault", "RuntimeError")
LOST = "coroutine was never awaited"
PENDING = "Task was destroyed but it is pending!"
UNSEEN = "Task exception was never retrieved"


def session(outside=(), debug=False, slow=100, **routines):
    return Session(Program(routines, outside=outside), debug=debug, slow=slow)


class SessionCase(unittest.TestCase):
    def assert_raised(self, expected, function, *args, **more):
        with self.assertRaises(Raised) as caught:
            function(*args, **more)
        self.assertEqual(expected, caught.exception.fault)

    def assert_too_long(self, turns, function, *args):
        with self.assertRaises(TooLong) as caught:
            function(*args)
        self.assertEqual(turns, caught.exception.turns)

    def rows(self, made):
        return [row[2:] for row in made.log]


class TasksTest(SessionCase):
    def test_names(self):
        made = session(main=asynced(), other=asynced(params=("n",)))
        self.assertEqual("Task-1", made.create_task(("main",)))
        self.assertEqual("x", made.create_task(("main",), "x"))
        self.assertEqual("", made.create_task(("other", 3), name=""))
        self.assertEqual("Task-2", made.create_task(call=("other", (1, "a")), name=None))
        self.assertEqual(["Task-1", "x", "", "Task-2"], made.pending())
        self.assertEqual(["Task-1", "x", "", "Task-2"], made.queued())
        self.assertEqual([], made.log)

    def test_nothing_is_carried_out_ahead_of_a_run(self):
        made = session(main=asynced(say("@n"), params=("n",)))
        made.create_task(("main", 1))
        made.create_task(("main", "b"))
        self.assertEqual([], made.log)
        self.assertEqual(None, made.run_until_complete(("main", (3,))))
        self.assertEqual([(0, "Task-1", 1), (0, "Task-2", "b"), (0, "Task-3", (3,))], made.log)

    def test_values_of_a_call(self):
        made = session(main=asynced(("return", "@n"), params=("n",)))
        for value in (None, True, 0, -7, "", "x@", (), (1, ("a", None))):
            self.assertEqual(value, made.run_until_complete(("main", value)))


class CompleteTest(SessionCase):
    def test_results_are_shown(self):
        made = session(main=asynced(("return", (1, "a"))), gives=asynced(let("f", "future"), ("return", ("@f", 1))),
                       me=asynced(let("t", "current"), ("return", "@t")))
        self.assertEqual((1, "a"), made.run_until_complete(("main",)))
        self.assertEqual(("Future-1", 1), made.run_until_complete(("gives",)))
        self.assertEqual(("Future-2", 1), made.run_until_complete(("gives",)))
        self.assertEqual("Task-4", made.run_until_complete(("me",)))

    def test_faults_are_raised_and_count_as_seen(self):
        made = session(raises=RAISES, cancels=asynced(let("t", "current"), do("cancel", "@t", "m"), sleep(0)))
        self.assert_raised(fault("Odd", 4), made.run_until_complete, ("raises", 4))
        self.assert_raised(fault("Odd", "x"), made.run_until_complete, ("raises", "x"))
        self.assert_raised(fault("CancelledError", "m"), made.run_until_complete, ("cancels",))
        made.close()
        self.assertEqual([], made.notes)

    def test_one_more_turn_is_done(self):
        made = session(main=asynced(do("soon", "tell", 1), do("soon", "again")), tell=SAYS, again=plain(do("soon", "tell", 2)))
        made.run_until_complete(("main",))
        self.assertEqual([(1,)], self.rows(made))
        self.assertEqual(["tell"], made.queued())

    def test_it_goes_on_where_the_last_run_ended(self):
        made = session(sleeps=SLEEPS, tells=asynced(do("later", 7, "tell", "timer")), tell=SAYS)
        self.assertEqual("Task-1", made.create_task(("sleeps", 4)))
        made.run_until_complete(("tells",))
        self.assertEqual((0, [], ["Task-1"]), (made.clock(), made.log, made.pending()))
        self.assertEqual(2, made.run_until_complete(("sleeps", 2)))
        self.assertEqual(2, made.clock())
        self.assertEqual(9, made.run_until_complete(("sleeps", 9)))
        self.assertEqual([(2, "Task-3", "slept", 2), (4, "Task-1", "slept", 4), (7, None, "timer"),
                          (11, "Task-4", "slept", 9)], made.log)
        self.assertEqual(([], 11), (made.pending(), made.clock()))

    def test_stopped_ahead_of_the_end(self):
        made = session(stops=STOPS, sleeps=SLEEPS)
        made.create_task(("stops",))
        self.assert_raised(CLOSED, made.run_until_complete, ("sleeps", 5))
        self.assertEqual((["Task-2"], 0), (made.pending(), made.clock()))
        # The mark is gone, and so is the callback: the task does not end a later run.
        self.assertEqual(9, made.run_until_complete(("sleeps", 9)))
        self.assertEqual([("slept", 5), ("slept", 9)], self.rows(made))

    def test_stopped_in_the_turn_of_the_end(self):
        made = session(both=asynced(do("stop"), ("return", 3)))
        self.assertEqual(3, made.run_until_complete(("both",)))
        # The callback of its end was ready already: it stays, and ends the next run.
        self.assertEqual(1, len(made.queued()))
        self.assertIsNone(made.run_forever())
        self.assertRaises(Stuck, made.run_forever)

    def test_a_callback_that_is_ready_ends_the_next_run(self):
        made = session(both=asynced(do("stop"), ("return", 3)), sleeps=SLEEPS)
        made.run_until_complete(("both",))
        self.assert_raised(CLOSED, made.run_until_complete, ("sleeps", 2))
        self.assertEqual(["Task-2"], made.pending())
        self.assertEqual(1, made.run_until_complete(("sleeps", 1)))

    def test_a_great_fault_out_of_a_callback(self):
        made = session(main=asynced(do("soon", "exits"), do("soon", "tell", 1), do("soon", "tell", 2), sleep(3), say("on")),
                       exits=EXITS, tell=SAYS)
        self.assert_raised(fault("SystemExit", "now"), made.run_until_complete, ("main",))
        self.assertEqual(([], ["tell", "tell"], ["Task-1"]), (made.log, made.queued(), made.pending()))
        self.assertEqual(([3], 0), made.times())
        self.assert_too_long(3, made.run_forever, 3)
        self.assertEqual([(1,), (2,), ("on",)], self.rows(made))

    def test_a_great_fault_of_the_task(self):
        for kind in ("SystemExit", "KeyboardInterrupt"):
            made = session(main=asynced(let("x", "fault", kind, 1), ("raise", "@x")), sleeps=SLEEPS)
            self.assert_raised(fault(kind, 1), made.run_until_complete, ("main",))
            # Its callback is ready, but does nothing in the next run.
            self.assertEqual(1, len(made.queued()))
            self.assertEqual(2, made.run_until_complete(("sleeps", 2)))
            made.close()
            self.assertEqual([], made.notes)

    def test_the_fault_of_a_task_that_is_done_when_another_one_ends_the_run(self):
        made = session(main=asynced(do("soon", "exits"), sleep(0), let("x", "fault", "Odd"), ("raise", "@x")), exits=EXITS)
        # The task is not done: its fault comes later, and is not seen.
        self.assert_raised(fault("SystemExit", "now"), made.run_until_complete, ("main",))
        with self.assertRaises(Stuck):
            made.run_forever()
        made.close()
        self.assertEqual([(0, UNSEEN, "Task-1", fault("Odd"))], made.notes)
        # Here it is done, and the callback of its end stands behind the one that ends the run.
        made = session(main=asynced(let("x", "fault", "Odd"), do("soon", "exits"), ("raise", "@x")), exits=EXITS)
        self.assert_raised(fault("SystemExit", "now"), made.run_until_complete, ("main",))
        self.assertEqual(1, len(made.queued()))
        made.close()
        self.assertEqual([], made.notes)

    def test_stuck(self):
        made = session(never=asynced(let("F", "future"), wait("it", "@F"), say("on"), ("return", 1)),
                       sets=asynced(do("set_result", "@F", 1), sleep(3), ("return", 2)))
        self.assertRaises(Stuck, made.run_until_complete, ("never",))
        self.assertRaises(Stuck, made.run_forever)
        self.assertEqual(["Task-1"], made.pending())
        # The first run is ended: that its task is done does not end this one.
        self.assertEqual(2, made.run_until_complete(("sets",)))
        self.assertEqual([(0, "Task-1", "on")], made.log)
        self.assertEqual([], made.notes)

    def test_too_long(self):
        made = session(main=asynced(sleep(0), sleep(0), ("return", 1)), never=NEVER)
        self.assert_too_long(1, made.run_until_complete, ("main",), 1)
        self.assert_too_long(2, made.run_until_complete, ("main",), 2)
        self.assertEqual(["Task-2"], made.pending())
        self.assertEqual(1, made.run_until_complete(("main",), turns=4))
        self.assert_too_long(3, made.run_until_complete, ("main",), 3)
        # Also if nothing could come then.
        made = session(never=NEVER)
        self.assert_too_long(1, made.run_until_complete, ("never",), 1)
        made = session(never=NEVER)
        self.assertRaises(Stuck, made.run_until_complete, ("never",), 2)

    def test_a_run_that_took_too_long_is_ended(self):
        made = session(main=asynced(sleep(1), ("return", 1)), sleeps=SLEEPS)
        self.assert_too_long(1, made.run_until_complete, ("main",), 1)
        self.assertEqual(5, made.run_until_complete(("sleeps", 5)))
        self.assertEqual(5, made.clock())

    def test_as_many_turns_as_are_needed(self):
        made = session(main=asynced(("return", 1)))
        self.assert_too_long(1, made.run_until_complete, ("main",), 1)
        self.assertEqual(1, session(main=asynced(("return", 1))).run_until_complete(("main",), 2))
        made = session(main=asynced(let("n", "it", 0), ("while", ("less", "@n", 1998), (let("n", "add", "@n", 1), sleep(0)))))
        self.assertEqual(None, made.run_until_complete(("main",)))
        made = session(main=asynced(let("n", "it", 0), ("while", ("less", "@n", 1999), (let("n", "add", "@n", 1), sleep(0)))))
        self.assert_too_long(2000, made.run_until_complete, ("main",))


class ForeverTest(SessionCase):
    def test_until_it_is_stopped(self):
        made = session(main=asynced(sleep(3), do("stop"), say("stopped"), sleep(0), say("later")))
        made.create_task(("main",))
        self.assertIsNone(made.run_forever())
        self.assertEqual([(3, "Task-1", "stopped")], made.log)
        self.assertRaises(Stuck, made.run_forever)
        self.assertEqual([("stopped",), ("later",)], self.rows(made))

    def test_a_mark_ahead_of_a_run(self):
        made = session(main=asynced(say(1), sleep(0), say(2), sleep(4), say(3)))
        made.create_task(("main",))
        made.stop()
        self.assertIsNone(made.run_forever())
        self.assertEqual([(1,)], self.rows(made))
        self.assertIsNone(made.stop())
        made.run_forever(5)
        self.assertEqual([(1,), (2,)], self.rows(made))
        # This one turn does not wait, though nothing is ready.
        made.stop()
        made.run_forever(1)
        self.assertEqual((0, ([4], 0)), (made.clock(), made.times()))
        self.assertRaises(Stuck, made.run_forever)
        self.assertEqual([(1,), (2,), (3,)], self.rows(made))

    def test_a_mark_where_nothing_will_come(self):
        made = session(main=asynced())
        made.stop()
        self.assertIsNone(made.run_forever())
        self.assertRaises(Stuck, made.run_forever)

    def test_a_mark_ahead_of_a_run_for_a_task(self):
        made = session(main=asynced(("return", 3)), sleeps=SLEEPS)
        made.stop()
        self.assertEqual(3, made.run_until_complete(("main",)))
        made = session(sleeps=SLEEPS)
        made.stop()
        self.assert_raised(CLOSED, made.run_until_complete, ("sleeps", 1))

    def test_a_great_fault(self):
        made = session(main=asynced(do("at", 2, "exits"), do("at", 2, "stops"), sleep(5)), exits=EXITS, stops=plain(do("stop")))
        made.create_task(("main",))
        self.assert_raised(fault("SystemExit", "now"), made.run_forever)
        self.assertEqual((2, ["stops"]), (made.clock(), made.queued()))
        self.assertIsNone(made.run_forever(1))
        self.assert_too_long(2, made.run_forever, 2)

    def test_the_mark_is_taken_away_with_a_great_fault(self):
        made = session(main=asynced(do("soon", "both"), sleep(0), sleep(0), sleep(5), say("on")),
                       both=plain(do("stop"), let("x", "fault", "KeyboardInterrupt"), ("raise", "@x")))
        made.create_task(("main",))
        self.assert_raised(fault("KeyboardInterrupt"), made.run_forever)
        self.assertRaises(Stuck, made.run_forever)
        self.assertEqual([("on",)], self.rows(made))

    def test_other_faults_are_reported(self):
        made = session(main=asynced(let("x", "fault", "Odd"), do("soon", "throw", "@x"), sleep(1), do("handler", "tells"),
                                    do("soon", "throw", "@x"), sleep(0), do("stop")),
                       throw=plain(("raise", "@f"), params=("f",)), tells=plain(say("@m", "@f", "@w"), params=("m", "f", "w")))
        made.create_task(("main",))
        made.run_forever()
        self.assertEqual([(0, "Exception in callback throw", "throw", fault("Odd"))], made.notes)
        self.assertEqual([(1, None, "Exception in callback throw", fault("Odd"), "throw")], made.log)

    def test_too_long_and_stuck(self):
        made = session(main=asynced(("while", ("it", 1), (sleep(0),))))
        self.assertRaises(Stuck, made.run_forever)
        made.create_task(("main",))
        self.assert_too_long(7, made.run_forever, 7)
        self.assert_too_long(2000, made.run_forever)

    def test_a_task_that_was_run_for_does_not_stop_it(self):
        made = session(stops=STOPS, sleeps=SLEEPS)
        made.create_task(("stops",))
        self.assert_raised(CLOSED, made.run_until_complete, ("sleeps", 3))
        self.assertRaises(Stuck, made.run_forever)
        self.assertEqual([("slept", 3)], self.rows(made))


class TellingTest(SessionCase):
    def test_the_queue(self):
        made = session(main=asynced(do("soon", "tell", 1), let("h", "soon", "other", 2), do("soon", "tell", 3),
                                    do("cancel", "@h"), let("x", "future"), let("s", "shield", "@x"), do("on_done", "@x", "told"),
                                    start("w", "call", "waits", "@x"), sleep(0), do("set_result", "@x", 1), do("stop"), sleep(5)),
                       tell=SAYS, other=SAYS, told=SAYS, waits=asynced(wait("it", "@x"), params=("x",)))
        made.create_task(("main",), "M")
        self.assertEqual(["M"], made.queued())
        made.stop()
        made.run_forever()
        self.assertEqual(["tell", "tell", "Task-1", "M"], made.queued())
        made.run_forever()
        self.assertEqual(["shield", "told", "Task-1"], made.queued())
        self.assertEqual(["M", "Task-1"], made.pending())
        self.assertIsNot(made.queued(), made.queued())

    def test_texts_that_are_left_open(self):
        made = session(main=asynced(("return", 1)))
        self.assert_too_long(1, made.run_until_complete, ("main",), 1)
        self.assertEqual([str], [type(who) for who in made.queued()])

    def test_times(self):
        made = session(main=asynced(*[let(f"h{at}", "at", at, "tell", at) for at in (9, 4, 7, 4)], do("cancel", "@h7"),
                                    do("cancel", "@h7"), do("stop")), tell=SAYS)
        self.assertEqual(([], 0), made.times())
        made.create_task(("main",))
        made.run_forever()
        self.assertEqual(([4, 4, 7, 9], 1), made.times())
        self.assertRaises(Stuck, made.run_forever)
        self.assertEqual(([(4,), (4,), (9,)], 9), (self.rows(made), made.clock()))
        # It came to the top of the heap, and was popped there: the count is lessened.
        self.assertEqual(([], 0), made.times())

    def test_the_count_is_no_number_of_timers(self):
        made = session(main=asynced(let("h", "at", 2, "tell", 1), do("at", 1, "tell", 2), do("cancel", "@h"),
                                    do("spend", 3), sleep(0), do("stop")), tell=SAYS)
        made.create_task(("main",))
        made.run_forever()
        # What is due and below one that was not cancelled is popped without lessening the count.
        self.assertEqual(([], 1), made.times())
        self.assertEqual([(2,)], self.rows(made))

    def test_the_clock(self):
        made = session(main=asynced(do("spend", 3), sleep(4)))
        self.assertEqual(0, made.clock())
        made.run_until_complete(("main",))
        self.assertEqual(7, made.clock())

    def test_log_and_notes_go_on(self):
        made = session(main=asynced(say("@n"), let("c", "sleep", 1), params=("n",)))
        rows, notes = made.log, made.notes
        for n in (1, 2):
            made.run_until_complete(("main", n))
            self.assertEqual(n, len(rows))
        made.close()
        self.assertEqual(2, len(notes))
        self.assertIs(rows, made.log)
        self.assertIs(notes, made.notes)

    def test_things_keep_their_numbers(self):
        made = session(main=asynced(let("f", "future"), say("@f"), ("return", "@f")))
        self.assertEqual(["Future-1", "Future-2"], [made.run_until_complete(("main",)) for _ in range(2)])
        self.assertEqual([("Future-1",), ("Future-2",)], self.rows(made))

    def test_shared_variables_are_those_of_the_session(self):
        made = session(puts=asynced(let("N", "it", "@n"), params=("n",)), gets=asynced(("return", "@N")))
        made.run_until_complete(("puts", 5))
        self.assertEqual(5, made.run_until_complete(("gets",)))
        other = Session(Program({"gets": asynced(("return", "@N"))}))
        self.assert_raised(fault("NameError"), other.run_until_complete, ("gets",))

    def test_arrivals(self):
        made = session(outside=((2, "s", "a"), (5, "s", "b")), reads=asynced(do("reader", "s", "take")),
                       take=plain(let("v", "read", "s"), say("@v")), sleeps=SLEEPS)
        made.run_until_complete(("reads",))
        made.run_until_complete(("sleeps", 3))
        self.assertEqual([(2, None, "a"), (3, "Task-2", "slept", 3)], made.log)
        self.assertRaises(Stuck, made.run_forever)
        self.assertEqual((5, None, "b"), made.log[-1])

    def test_debug(self):
        for debug, slow, notes in ((False, 1, 0), (True, 100, 0), (True, 6, 0), (True, 5, 1), (True, 1, 1)):
            made = session(main=asynced(do("spend", 5)), debug=debug, slow=slow)
            made.run_until_complete(("main",))
            self.assertEqual([(5, "slow", "Task-1", 5)] * notes, made.notes)


class ClosingTest(SessionCase):
    def test_notes(self):
        made = session(main=asynced(start("s", "sleep", 9), let("c", "sleep", 1), start("r", "call", "raises", 2), sleep(0)),
                       raises=RAISES)
        made.create_task(("raises", 1), "early")
        made.run_until_complete(("main",))
        made.create_task(("raises", 3), "late")
        self.assertIsNone(made.close())
        self.assertEqual([
            (0, LOST, "sleep", None), (0, LOST, "raises", None), (0, PENDING, "Task-2", None), (0, PENDING, "late", None),
            (0, UNSEEN, "early", fault("Odd", 1)), (0, UNSEEN, "Task-3", fault("Odd", 2)),
        ], made.notes)

    def test_a_session_that_is_closed(self):
        made = session(main=asynced(do("soon", "tell", 1), do("later", 5, "tell", 1), sleep(9)), tell=SAYS)
        made.create_task(("main",))
        made.stop()
        made.run_forever()
        self.assertEqual((["tell"], ([5, 9], 0)), (made.queued(), made.times()))
        made.close()
        self.assertEqual(([], ([], 0), ["Task-1"], 0), (made.queued(), made.times(), made.pending(), made.clock()))
        notes = list(made.notes)
        self.assertEqual(1, len(notes))
        for function, args in ((made.create_task, (("main",),)), (made.run_until_complete, (("main",),)), (made.run_forever, ())):
            self.assert_raised(CLOSED, function, *args)
        self.assertIsNone(made.stop())
        self.assertIsNone(made.close())
        self.assertEqual((notes, ["Task-1"], []), (made.notes, made.pending(), made.log))

    def test_a_session_that_is_not_closed_tells_nothing(self):
        made = session(never=NEVER)
        self.assertRaises(Stuck, made.run_until_complete, ("never",))
        self.assertEqual([], made.notes)


class ArgumentsTest(SessionCase):
    PROGRAM = Program({"main": asynced(), "one": asynced(params=("n",)), "plain": plain()})
    WRONG = (None, True, 0, -1, 1.5, "main", b"x", [], {}, (), set(), frozenset(), object(), int, PROGRAM, LoopError("x"))

    def place_of(self, function, *args, **more):
        with self.assertRaises(BadProgram) as caught:
            function(*args, **more)
        return caught.exception.place

    def test_signatures(self):
        for function, told in (
                (Session, "(program, *, debug=False, slow=100)"), (Session.create_task, "(self, call, name=None)"),
                (Session.run_until_complete, "(self, call, turns=2000)"), (Session.run_forever, "(self, turns=2000)"),
                (Session.stop, "(self)"), (Session.close, "(self)"), (Session.clock, "(self)"), (Session.pending, "(self)"),
                (Session.queued, "(self)"), (Session.times, "(self)")):
            self.assertEqual(told, str(inspect.signature(function)))
        self.assertRaises(TypeError, Session, self.PROGRAM, False)
        made = Session(program=self.PROGRAM, debug=True, slow=1)
        self.assertEqual(("Task-1", None), (made.create_task(call=("main",)), made.run_until_complete(call=("main",), turns=3)))
        self.assertEqual(([], []), (made.log, made.notes))

    def test_no_program(self):
        for wrong in self.WRONG:
            if wrong is not self.PROGRAM:
                self.assertEqual((), self.place_of(Session, wrong, debug=1, slow=0))
        self.assertEqual((), self.place_of(Session, Life(self.PROGRAM, ("main",))))

    def test_debug_and_slow(self):
        for wrong in self.WRONG:
            if wrong is not True:
                self.assertRaises(BadValue, Session, self.PROGRAM, debug=wrong)
            self.assertRaises(BadValue, Session, self.PROGRAM, slow=wrong)

    def test_calls(self):
        made = Session(self.PROGRAM)
        calls = [*self.WRONG, ("main", 1), ("one",), ("one", "@x"), ("one", 1.5), ("one", [1]), ("plain",), ("none",),
                 (None,), ["main"]]
        for call in calls:
            self.assertEqual(("call",), self.place_of(made.create_task, call, 5), call)
            self.assertEqual(("call",), self.place_of(made.run_until_complete, call, 0), call)
        made.close()
        self.assertEqual(("call",), self.place_of(made.create_task, ("none",)))
        self.assertEqual(("call",), self.place_of(made.run_until_complete, ("none",), 0))

    def test_names_and_turns(self):
        made = Session(self.PROGRAM)
        for closed in (False, True):
            for wrong in self.WRONG:
                if wrong is not None and wrong != "main":
                    self.assertRaises(BadValue, made.create_task, ("main",), wrong)
                self.assertRaises(BadValue, made.run_until_complete, ("main",), wrong)
                self.assertRaises(BadValue, made.run_forever, wrong)
            made.close()
        self.assertEqual(([], []), (made.pending(), made.notes))

    def test_what_is_refused_leaves_no_trace(self):
        made = Session(self.PROGRAM)
        for function, args in ((made.create_task, (("main",), 5)), (made.run_until_complete, (("main",), 0))):
            self.assertRaises(BadValue, function, *args)
        self.assertEqual("Task-1", made.create_task(("main",)))
        made.close()
        self.assert_raised(CLOSED, made.create_task, ("main",))
        self.assertEqual(2, len(made.notes))


if __name__ == "__main__":
    unittest.main()
