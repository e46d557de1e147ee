"""Running, closing, reporting [11], and lives [12.1]."""

import unittest

from loopyard.errors import Stuck
from loopyard.running import Life, run
from tests.helper import (
    RAISES, SAYS, Case, asynced, catch, do, fault, let, log, main, plain, report, say, sleep, start, tell, wait,
)

ODD = let("x", "fault", "Odd", 1)
RAISE = plain(("raise", "@f"), params=("f",))
TELLS = plain(say("told", "@m", "@f", "@w"), params=("m", "f", "w"))
EXITS = plain(let("x", "fault", "SystemExit", "h"), ("raise", "@x"), params=("m", "f", "w"))
NEVER = asynced(let("f", "future"), wait("it", "@f"))
STUBBORN = asynced(catch(sleep(99), then=()), let("f", "future"), wait("it", "@f"))
SHUTDOWN = "unhandled exception during asyncio.run() shutdown"
LOST = "coroutine was never awaited"
PENDING = "Task was destroyed but it is pending!"


def throw(kind, *told):
    """Let a callback raise a fault of this kind in the next turn."""
    return ("if", ("it", 1), (let("x", "fault", kind, *told), do("soon", "throw", "@x")), ())


class OutcomeTest(Case):
    def outcome(self, *steps, **more):
        return report(*steps, **more).outcome

    def test_values_and_faults(self):
        self.assertEqual(("value", None), self.outcome())
        self.assertEqual(("value", (1, "a")), self.outcome(("return", (1, "a"))))
        self.assertEqual(("value", "Future-1"), self.outcome(let("f", "future"), ("return", "@f")))
        self.assertEqual(("value", fault("Odd", 1)), self.outcome(ODD, ("return", "@x")))
        self.assertEqual(("fault", fault("Odd", 1)), self.outcome(ODD, ("raise", "@x")))
        for kind in ("CancelledError", "SystemExit", "KeyboardInterrupt"):
            self.assertEqual(("fault", fault(kind, "own")), self.outcome(let("x", "fault", kind, "own"), ("raise", "@x")))

    def test_stop_ahead_of_the_end(self):
        told = report(do("stop"), say("on"), sleep(3), say("never"))
        self.assertEqual(("fault", fault("RuntimeError")), told.outcome)
        self.assertEqual([(0, "Task-1", "on")], told.log)
        self.assertEqual(0, told.now)

    def test_stop_lets_the_turn_go_on_to_its_end(self):
        told = report(do("soon", "stops"), do("soon", "tell", 1), sleep(0), say("end"), stops=plain(do("stop")), tell=SAYS)
        self.assertEqual([1, "end"], [row[2] for row in told.log])
        self.assertEqual(("fault", fault("RuntimeError")), report(
            do("soon", "stops"), do("soon", "tell", 1), sleep(0), sleep(0), stops=plain(do("stop")), tell=SAYS).outcome)

    def test_stop_in_the_turn_of_the_end(self):
        self.assertEqual(("value", 3), self.outcome(do("stop"), ("return", 3)))

    def test_one_more_turn_behind_the_end(self):
        told = report(do("soon", "tell", 1), do("soon", "again"), tell=SAYS, again=plain(do("soon", "tell", 2)))
        self.assertEqual([1, 2], [row[2] for row in told.log])
        self.assertEqual(6, told.turns)

    def test_turns(self):
        self.assertEqual(6, report().turns)
        self.assertEqual(7, report(sleep(0)).turns)
        self.assertEqual((8, 3), (report(sleep(3)).turns, report(sleep(3)).now))

    def test_the_clock_does_not_move_by_itself_in_the_last_runs(self):
        told = report(do("later", 3, "tell", 1), do("later", 0, "tell", 2), tell=SAYS)
        self.assertEqual(([(0, None, 2)], 0), (told.log, told.now))

    def test_stuck(self):
        told = report(say(1), start("t", "call", "never"), let("f", "future"), wait("it", "@f"), never=NEVER)
        self.assertEqual((("stuck",), 2, [], [(0, "Task-1", 1)]), (told.outcome, told.turns, told.notes, told.log))
        self.assertEqual([("Task-1", "Future-1"), ("Task-2", "Future-2")], told.waiting)

    def test_stuck_behind_main(self):
        told = report(start("t", "call", "stubborn"), sleep(1), ("return", 5), stubborn=STUBBORN)
        self.assertEqual((("stuck",), [("Task-2", "Future-1")], []), (told.outcome, told.waiting, told.notes))

    def test_busy(self):
        told = report(("while", ("it", 1), (sleep(0),)), turns=7)
        self.assertEqual((("busy",), 7, [("Task-1", None)]), (told.outcome, told.turns, told.waiting))
        for turns in range(1, 6):
            told = report(turns=turns)
            self.assertEqual((("busy",), turns), (told.outcome, told.turns))
        self.assertEqual(("value", None), report(turns=6).outcome)

    def test_busy_where_it_would_be_stuck(self):
        steps = (let("f", "future"), wait("it", "@f"))
        self.assertEqual((("busy",), 1), (report(*steps, turns=1).outcome, report(*steps, turns=1).turns))
        self.assertEqual((("stuck",), 1), (report(*steps, turns=2).outcome, report(*steps, turns=2).turns))

    def test_what_tasks_wait_for(self):
        steps = (let("F", "future"), start("a", "call", "waits"), let("c", "sleep", 0), do("task", "@c", "b"),
                 start("d", "call", "joins", "@a"), let("c", "sleep", 9), do("task", "@c", "e"), sleep(0))
        routines = dict(waits=asynced(wait("it", "@F")), joins=asynced(wait("it", "@t"), params=("t",)))
        told = report(*steps, say("@F"), do("set_result", "@F", 1), ("while", ("it", 1), (sleep(0),)), turns=2, **routines)
        self.assertEqual([("Task-1", None), ("Task-2", "Future-1"), ("b", None), ("Task-3", "Task-2"),
                          ("e", "Future-2")], told.waiting)

    def test_own_task_awaited(self):
        told = report(let("m", "current"), wait("it", "@m"), turns=1)
        self.assertEqual([("Task-1", None)], told.waiting)

    def test_the_clock(self):
        self.assertEqual(5, report(sleep(5)).now)
        self.assertEqual(8, report(do("spend", 8)).now)


class ShutdownTest(Case):
    def test_what_is_left_is_cancelled_in_order(self):
        waits = asynced(catch(sleep(99), then=(say("@n", "@e"), ("raise",))), params=("n",))
        told = report(start("s", "call", "waits", 1), start("t", "call", "waits", 2), sleep(1), ("return", 3), waits=waits)
        self.assertEqual([(1, "Task-2", 1, fault("CancelledError")), (1, "Task-3", 2, fault("CancelledError"))], told.log)
        self.assertEqual((("value", 3), [], []), (told.outcome, told.notes, told.waiting))

    def test_turns_with_and_without_what_is_left(self):
        self.assertEqual(6, report().turns)
        # Cancelling what is left takes a turn for its step, one for its callback, one for the end of the run.
        self.assertEqual(6 + 1 + 3, report(start("t", "sleep", 9), sleep(0)).turns)

    def test_faults_of_what_is_left(self):
        fails = asynced(catch(sleep(99), then=(let("f", "fault", "Odd", "@n"), ("raise", "@f"))), params=("n",))
        told = report(start("s", "call", "fails", 1), start("t", "call", "fails", 2), start("u", "sleep", 99), sleep(1),
                      fails=fails)
        self.assertEqual([(1, SHUTDOWN, "Task-2", fault("Odd", 1)), (1, SHUTDOWN, "Task-3", fault("Odd", 2))], told.notes)
        told = report(do("handler", "tells"), start("s", "call", "fails", 1), sleep(1), fails=fails, tells=TELLS)
        self.assertEqual([(1, None, "told", SHUTDOWN, fault("Odd", 1), "Task-2")], told.log)
        self.assertEqual([], told.notes)

    def test_a_great_fault_out_of_a_report_of_it(self):
        fails = asynced(catch(sleep(99), then=(let("f", "fault", "Odd", "@n"), ("raise", "@f"))), params=("n",))
        told = report(do("handler", "exits"), start("s", "call", "fails", 1), start("t", "call", "fails", 2), sleep(1),
                      ("return", 3), fails=fails, exits=EXITS)
        self.assertEqual(("fault", fault("SystemExit", "h")), told.outcome)
        self.assertEqual([], told.notes)
        self.assertEqual(report(start("s", "sleep", 9), start("t", "sleep", 9), sleep(1)).turns - 4, told.turns)

    def test_tasks_that_are_made_meanwhile(self):
        makes = asynced(catch(sleep(99), then=(start("t", "call", "never"),)))
        told = report(start("s", "call", "makes"), sleep(1), ("return", 3), makes=makes, never=NEVER)
        self.assertEqual(("value", 3), told.outcome)
        self.assertEqual([(1, PENDING, "Task-3", None)], told.notes)
        self.assertEqual([("Task-3", "Future-1")], told.waiting)

    def test_a_task_that_catches_its_cancel_and_goes_on(self):
        told = report(start("s", "call", "goes_on"), sleep(1), ("return", 3),
                      goes_on=asynced(catch(sleep(99), then=()), sleep(4), say("end")))
        self.assertEqual(([(5, "Task-2", "end")], 5, ("value", 3)), (told.log, told.now, told.outcome))

    def test_a_fault_out_of_a_run_behind_main(self):
        great = asynced(catch(sleep(99), then=(let("f", "fault", "SystemExit", 2), ("raise", "@f"))))
        told = report(start("s", "call", "great"), start("t", "call", "great"), sleep(1), ("return", 3), great=great)
        self.assertEqual(("fault", fault("SystemExit", 2)), told.outcome)
        self.assertEqual([("Task-3", "Future-1")], told.waiting)
        self.assertEqual([(1, PENDING, "Task-3", None),
                          (1, "Task exception was never retrieved", "Task-2", fault("SystemExit", 2))], told.notes)

    def test_stop_in_a_run_behind_main(self):
        stops = asynced(catch(sleep(99), then=(do("stop"), sleep(3))))
        told = report(start("s", "call", "stops"), sleep(1), ("return", 3), stops=stops)
        self.assertEqual(("fault", fault("RuntimeError")), told.outcome)
        self.assertEqual([(1, PENDING, "Task-2", None)], told.notes)

    def test_great_faults_of_main_and_its_callbacks(self):
        for kind in ("SystemExit", "KeyboardInterrupt"):
            told = report(let("x", "fault", kind, 1), ("raise", "@x"))
            self.assertEqual((("fault", fault(kind, 1)), []), (told.outcome, told.notes))
            # The end of the run for main is ready, and asks for its fault in the next run.
            self.assertEqual(5, told.turns)
            told = report(throw(kind), sleep(5), say("never"), throw=RAISE)
            self.assertEqual((("fault", fault(kind)), [], []), (told.outcome, told.notes, told.log))

    def test_the_end_of_a_run_that_is_ready_already(self):
        # Main ends in the turn that a callback ends; its end is carried out in the next run, and stops that one.
        told = report(throw("SystemExit", 1), start("t", "call", "stubborn"), sleep(0), throw=RAISE, stubborn=STUBBORN)
        self.assertEqual(("fault", fault("SystemExit", 1)), told.outcome)

    def test_the_small_tasks_take_names(self):
        rows = log(do("soon", "again"), again=plain(let("t", "tasks"), say("@t"), do("soon", "again")))
        self.assertEqual([(), ("Task-2",), (), ("Task-3",), ()], [row[2] for row in rows])


class ClosingTest(Case):
    def test_the_order_of_the_notes(self):
        told = report(let("x", "fault", "Odd", 1), let("f", "future"), let("c", "sleep", 1), start("t", "call", "raises", 2),
                      let("d", "call", "makes"), let("g", "future"), do("set_exception", "@g", "@x"),
                      do("set_exception", "@f", "@x"), start("s", "call", "makes"), sleep(1), raises=RAISES,
                      never=NEVER, makes=asynced(catch(sleep(99), then=(start("t", "call", "never"),))))
        self.assertEqual([
            (1, LOST, "sleep", None), (1, LOST, "makes", None), (1, PENDING, "Task-4", None),
            (1, "Future exception was never retrieved", "Future-1", fault("Odd", 1)),
            (1, "Task exception was never retrieved", "Task-2", fault("Odd", 2)),
            (1, "Future exception was never retrieved", "Future-2", fault("Odd", 1)),
        ], told.notes)
        self.assertEqual([("Task-4", "Future-3")], told.waiting)

    def test_words_of_coroutines(self):
        made = {"sleep": (1,), "wait": (("@f",),), "wait_for": ("@f", 1), "acquire": ("@l",), "put": ("@q", 1),
                "get": ("@q",), "join": ("@q",), "reset": ("@b",), "abort": ("@b",)}
        steps = [let(name, *call) for name, call in (("f", ("future",)), ("l", ("lock",)), ("q", ("queue",)),
                                                     ("b", ("barrier", 1)))]
        told = report(*steps, *[do(op, *args) for op, args in made.items()], do("call", "main"))
        self.assertEqual([(0, LOST, word, None) for word in [*made, "main"]], told.notes)

    def test_a_task_awaits_its_coroutine_in_its_first_step(self):
        told = report(start("t", "call", "co"), do("cancel", "@t"), sleep(1), co=asynced())
        self.assertEqual([], told.notes)
        # Its first step is carried out in the second run, which the callback behind it ends.
        told = report(do("stop"), start("t", "call", "co"), throw("SystemExit"), sleep(0), co=asynced(), throw=RAISE)
        self.assertEqual([(0, PENDING, "Task-1", None)], told.notes)

    def test_a_task_of_which_no_step_was_carried_out(self):
        # A callback ends the run that cancels what is left; behind it stands the first step of a new task.
        makes = asynced(catch(sleep(99), then=(throw("SystemExit"), start("t", "call", "co"))))
        told = report(start("s", "call", "makes"), sleep(1), co=asynced(), makes=makes, throw=RAISE)
        self.assertEqual([(1, LOST, "co", None), (1, PENDING, "Task-3", None)], told.notes)
        self.assertEqual([("Task-3", None)], told.waiting)

    def test_nothing_is_carried_out_any_more(self):
        told = report(do("soon", "again"), again=plain(say(), do("soon", "again")))
        self.assertEqual(5, len(told.log))
        told = report(do("at", 5, "tell", 1), tell=SAYS)
        self.assertEqual([], told.log)

    def test_the_handler_is_not_called(self):
        told = report(do("handler", "tells"), let("c", "sleep", 1), let("f", "future"), ODD,
                      do("set_exception", "@f", "@x"), tells=TELLS)
        self.assertEqual([], told.log)
        self.assertEqual(2, len(told.notes))

    def test_a_loop_that_is_stuck_or_busy_is_not_closed(self):
        steps = (let("c", "sleep", 1), let("f", "future"), wait("it", "@f"))
        self.assertEqual([], report(*steps).notes)
        self.assertEqual([], report(*steps, turns=1).notes)

    def test_things_shown_at_the_end(self):
        told = report(let("f", "future"), let("g", "future"), ODD, do("set_exception", "@g", "@x"), ("return", "@f"))
        self.assertEqual(("Future-1", ("value", "Future-2")), (told.notes[0][2], told.outcome))


class ReportsTest(Case):
    def test_who_of_a_routine(self):
        told = report(ODD, do("soon", "throw", "@x"), do("at", 1, "throw", "@x"), do("reader", "s", "failing"), sleep(2),
                      throw=RAISE, failing=plain(do("unread", "s"), let("f", "fault", "Read"), ("raise", "@f")),
                      outside=((2, "s", 1),))
        self.assertEqual([(0, "Exception in callback throw", "throw", fault("Odd", 1)),
                          (1, "Exception in callback throw", "throw", fault("Odd", 1)),
                          (2, "Exception in callback failing", "failing", fault("Read"))], told.notes)

    def test_a_handler(self):
        rows = log(do("handler", "tells"), ODD, do("soon", "throw", "@x"), sleep(0), throw=RAISE, tells=TELLS)
        self.assertEqual([(0, None, "told", "Exception in callback throw", fault("Odd", 1), "throw")], rows)

    def test_the_fault_is_handed_over_as_a_value(self):
        self.assert_said([True], do("handler", "same"), let("X", "fault", "Odd", 1), do("soon", "throw", "@X"), sleep(0),
                         throw=RAISE, same=plain(tell("same", "@f", "@X"), params=("m", "f", "w")))

    def test_laying_and_taking_away(self):
        told = report(tell("handler", "tells"), ODD, do("soon", "throw", "@x"), sleep(0), tell("handler", None),
                      do("soon", "throw", "@x"), sleep(0), throw=RAISE, tells=TELLS)
        self.assertEqual([None, "told", None], [row[2] for row in told.log])
        self.assertEqual(1, len(told.notes))

    def test_faults_of_the_handler(self):
        for kind in ("Odd", "CancelledError"):
            told = report(do("handler", "raises"), ODD, do("soon", "throw", "@x"), do("soon", "tell", 1), sleep(0),
                          throw=RAISE, tell=SAYS, raises=plain(let("f", "fault", kind, 2), ("raise", "@f"),
                                                              params=("m", "f", "w")))
            self.assertEqual([(0, "Unhandled error in exception handler", None, fault(kind, 2))], told.notes)
            self.assertEqual([1], [row[2] for row in told.log])
        told = report(do("handler", "few"), ODD, do("soon", "throw", "@x"), sleep(0), throw=RAISE, few=plain())
        self.assertEqual([(0, "Unhandled error in exception handler", None, fault("TypeError"))], told.notes)

    def test_great_faults_of_the_handler(self):
        told = report(do("handler", "exits"), ODD, do("soon", "throw", "@x"), sleep(0), sleep(0), throw=RAISE, exits=EXITS)
        self.assertEqual((("fault", fault("SystemExit", "h")), []), (told.outcome, told.notes))

    def test_who_of_a_task(self):
        told = report(do("spend", 5), sleep(0), do("spend", 6), debug=True, slow=5)
        self.assertEqual([(5, "slow", "Task-1", 5), (11, "slow", "Task-1", 6)], told.notes)


class SlowTest(Case):
    def notes(self, *steps, slow=5, **more):
        return report(*steps, debug=True, slow=slow, **more).notes

    SPENDS = plain(do("spend", "@n"), say("spent"), params=("n",))

    def test_callbacks_that_are_slow(self):
        self.assertEqual([(5, "slow", "spends", 5)],
                         self.notes(do("soon", "spends", 5), do("soon", "spends", 4), sleep(0), spends=self.SPENDS))
        self.assertEqual([(1, "slow", "spends", 1)],
                         self.notes(do("soon", "spends", 1), do("soon", "spends", 0), sleep(0), slow=1,
                                    spends=self.SPENDS))

    def test_only_with_debug(self):
        self.assertEqual([], report(do("spend", 500)).notes)
        self.assertEqual([(100, "slow", "Task-1", 100)], report(do("spend", 100), debug=True).notes)
        self.assertEqual([], report(do("spend", 99), debug=True).notes)

    def test_waiting_is_not_slow(self):
        self.assertEqual([], self.notes(sleep(50)))

    def test_behind_the_report_of_its_fault(self):
        fails = plain(do("spend", 5), let("f", "fault", "Odd"), ("raise", "@f"))
        self.assertEqual([(5, "Exception in callback fails", "fails", fault("Odd")), (5, "slow", "fails", 5)],
                         self.notes(do("soon", "fails"), sleep(0), fails=fails))

    def test_what_the_handler_spends(self):
        fails = plain(let("f", "fault", "Odd"), ("raise", "@f"))
        self.assertEqual([(6, "slow", "fails", 6)],
                         self.notes(do("handler", "spends"), do("soon", "fails"), sleep(0), fails=fails,
                                    spends=plain(do("spend", 6), params=("m", "f", "w"))))

    def test_not_behind_a_great_fault(self):
        for kind in ("SystemExit", "KeyboardInterrupt"):
            fails = plain(do("spend", 5), let("f", "fault", kind), ("raise", "@f"))
            self.assertEqual([], self.notes(do("soon", "fails"), sleep(9), fails=fails))

    def test_a_step_behind_a_future(self):
        self.assertEqual([(7, "slow", "own", 7)], self.notes(
            let("F", "future"), let("c", "call", "co"), do("task", "@c", "own"), sleep(0), do("set_result", "@F", 1),
            sleep(1), co=asynced(wait("it", "@F"), do("spend", 7))))


class LifeTest(Case):
    def live(self, *steps, **more):
        return Life(main(*steps, **more), ("main",))

    def test_ahead_of_the_first_turn(self):
        life = self.live(say("x"))
        self.assertEqual(([], [], 0, ["Task-1"]), (life.log, life.notes, life.turns, life.pending()))

    def test_turn_by_turn(self):
        life = self.live(say("x"), sleep(2), say("y"))
        rows = []
        while True:
            further = life.turn()
            rows.append((further, life.turns, len(life.log), life.pending()))
            if not further:
                break
        self.assertEqual([
            (True, 1, 1, ["Task-1"]), (True, 2, 1, ["Task-1"]), (True, 3, 2, []), (True, 4, 2, []),
            (True, 5, 2, []), (True, 6, 2, []), (True, 7, 2, []), (False, 8, 2, []),
        ], rows)
        self.assertEqual((False, 8), (life.turn(), life.turns))

    def test_the_same_as_run(self):
        steps = (ODD, start("t", "sleep", 9), do("soon", "throw", "@x"), let("c", "sleep", 1), sleep(3), say("@t"))
        life = self.live(*steps, throw=RAISE)
        while life.turn():
            pass
        told = report(*steps, throw=RAISE)
        self.assertEqual((told.log, told.notes, told.turns), (life.log, life.notes, life.turns))

    def test_notes_of_the_closing_come_with_the_last_turn(self):
        life = self.live(let("c", "sleep", 1))
        while life.turn():
            self.assertEqual([], life.notes)
        self.assertEqual([(0, LOST, "sleep", None)], life.notes)

    def test_what_lies_between_two_runs(self):
        told = asynced(catch(sleep(99), then=(say("@e"), let("f", "fault", "Odd"), ("raise", "@f"))))
        life = self.live(start("t", "call", "co"), sleep(0), co=told)
        life.turn()
        life.turn()
        life.turn()
        # Main is done; what is left is cancelled at the begin of the next turn.
        self.assertEqual((["Task-2"], []), (life.pending(), life.log))
        life.turn()
        self.assertEqual(([], [fault("CancelledError")], []), (life.pending(), [row[2] for row in life.log], life.notes))
        life.turn()
        self.assertEqual([], life.notes)
        # The reports stand at the end of the turn in which the run ends.
        life.turn()
        self.assertEqual([(0, SHUTDOWN, "Task-2", fault("Odd"))], life.notes)

    def test_pending_in_the_order_in_which_tasks_were_made(self):
        life = self.live(start("t", "sleep", 9), let("c", "sleep", 1), do("task", "@c", "a"), sleep(4))
        life.turn()
        self.assertEqual(["Task-1", "Task-2", "a"], life.pending())
        for _ in range(4):
            life.turn()
        self.assertEqual(["Task-1", "Task-2"], life.pending())
        self.assertIsNot(life.pending(), life.pending())

    def test_stuck_now_and_always(self):
        life = self.live(let("f", "future"), wait("it", "@f"))
        self.assertTrue(life.turn())
        for _ in range(3):
            self.assertRaises(Stuck, life.turn)
        self.assertEqual((1, ["Task-1"]), (life.turns, life.pending()))

    def test_stuck_behind_main(self):
        life = self.live(start("t", "call", "stubborn"), sleep(0), stubborn=STUBBORN)
        for _ in range(4):
            life.turn()
        self.assertRaises(Stuck, life.turn)
        self.assertRaises(Stuck, life.turn)
        self.assertEqual((4, 1), (life.turns, life.loop.undone[max(life.loop.undone)].requests))

    def test_debug(self):
        program = main(do("spend", 3))
        life = Life(program, ("main",), debug=True, slow=3)
        life.turn()
        self.assertEqual([(3, "slow", "Task-1", 3)], life.notes)

    def test_a_great_fault(self):
        life = self.live(throw("SystemExit"), sleep(5), throw=RAISE)
        self.assertEqual([True, True], [life.turn(), life.turn()])
        self.assertEqual((2, ["Task-1"]), (life.turns, life.pending()))

    def test_a_great_fault_behind_main_ends_it(self):
        great = asynced(catch(sleep(99), then=(let("f", "fault", "SystemExit", 2), ("raise", "@f"))))
        life = self.live(start("s", "call", "great"), sleep(0), great=great)
        self.assertEqual([True, True, True, False, False], [life.turn() for _ in range(5)])
        self.assertEqual(4, life.turns)

    def test_arguments_of_main(self):
        program = main(other=asynced(say("@a", "@b"), params=("a", "b")))
        life = Life(program, ("other", 1, ("x",)))
        life.turn()
        self.assertEqual([(0, "Task-1", 1, ("x",))], life.log)
        self.assertEqual([(0, "Task-1", 1, 2)], run(program, ("other", 1, 2)).log)


if __name__ == "__main__":
    unittest.main()
