"""The loop: handles, timers, arrivals, turns [2, 3]."""

import unittest

from loopyard.moves import is_earlier, make_heap, push, take_first
from tests.helper import (
    SAYS, Case, do, fault, let, log, main, plain, report, said, say, sleep, tell,
)
from loopyard.running import Life

READS = plain(let("v", "read", "@s"), say("@s", "@v"), params=("s",))
RAISE = plain(("raise", "@f"), params=("f",))


def throw(kind):
    """Let a callback raise a fault of this kind in the next turn."""
    return ("if", ("it", 1), (let("x", "fault", kind), do("soon", "throw", "@x")), ())


def numbers(rows):
    return [row[2] for row in rows]


class MovesTest(unittest.TestCase):
    def heap(self, whens):
        rows = []
        for number, when in enumerate(whens):
            push(rows, (when, number), is_earlier)
        return rows

    def test_push(self):
        self.assertEqual([(3, 2), (5, 1), (5, 0)], self.heap([5, 5, 3]))
        self.assertEqual([(1, 0), (1, 1), (1, 2)], self.heap([1, 1, 1]))
        self.assertEqual([(1, 3), (2, 2), (4, 1), (5, 0)], self.heap([5, 4, 2, 1]))

    def test_pop(self):
        rows = [(3, 2), (5, 1), (5, 0)]
        self.assertEqual((3, 2), take_first(rows, is_earlier))
        self.assertEqual([(5, 1), (5, 0)], sorted(rows, key=lambda row: -row[1]))
        rows = self.heap([1, 1, 1, 1])
        self.assertEqual([0, 2, 1, 3], [take_first(rows, is_earlier)[1] for _ in range(4)])

    def test_the_right_child_where_both_are_alike(self):
        rows = [(0, 0), (1, 1), (1, 2), (1, 3)]
        take_first(rows, is_earlier)
        self.assertEqual([(1, 2), (1, 1), (1, 3)], rows)

    def test_heaped(self):
        rows = [(1, 0), (1, 2)]
        make_heap(rows, is_earlier)
        self.assertEqual([(1, 2), (1, 0)], rows)
        rows = [(4, 0), (3, 1), (2, 2), (1, 3), (0, 4)]
        make_heap(rows, is_earlier)
        self.assertEqual([(0, 4), (1, 3), (2, 2), (4, 0), (3, 1)], rows)


class CallbacksTest(Case):
    def test_soon_in_order_and_in_the_next_turn(self):
        self.assertEqual([(0, "Task-1", "main"), (0, None, 1), (0, None, 2), (0, None, "again")],
                         log(do("soon", "tell", 1), do("soon", "more"), say("main"), sleep(0), tell=SAYS,
                             more=plain(do("soon", "tell", "again"), say(2))))

    def test_soon_returns_a_handle(self):
        self.assert_said(["Handle-1"], tell("soon", "nothing"), nothing=plain())

    def test_wrong_number_of_args_when_it_is_carried_out(self):
        for call in (("soon", "tell"), ("later", 1, "tell", 1, 2), ("at", 1, "tell")):
            told = report(do(*call), say("on"), sleep(2), tell=SAYS)
            self.assertEqual(["on"], numbers(told.log))
            self.assertEqual([("Exception in callback tell", "tell", fault("TypeError"))],
                             [note[1:] for note in told.notes])

    def test_later_and_at(self):
        self.assertEqual([(0, None, "s"), (0, None, "n"), (0, None, "z"), (2, None, "l"), (3, None, "a")],
                         log(do("at", 3, "tell", "a"), do("later", 2, "tell", "l"), do("later", 0, "tell", "z"),
                             do("at", -5, "tell", "n"), do("soon", "tell", "s"), sleep(3), tell=SAYS))
        self.assertEqual([(4, None, "l"), (4, None, "a")],
                         log(sleep(2), do("later", 2, "tell", "l"), do("at", 4, "tell", "a"), sleep(5), tell=SAYS))
        self.assertEqual([(3, None, 1)], log(sleep(3), do("later", -2, "tell", 1), sleep(0), sleep(1), tell=SAYS))

    def test_a_timer_that_is_due_waits_for_the_next_turn(self):
        self.assertEqual([(0, None, "s"), (0, None, "t")],
                         log(do("later", 0, "tell", "t"), do("soon", "tell", "s"), sleep(1), tell=SAYS))

    def test_no_delay(self):
        for value in (None, True, "1", (1,)):
            self.assert_fault("TypeError", "later", value, "tell", 1, tell=SAYS)
            self.assert_fault("TypeError", "at", value, "tell", 1, tell=SAYS)

    def test_cancel(self):
        self.assert_said([None, True, None, True, 2],
                         let("h", "soon", "tell", 1), do("soon", "tell", 2), tell("cancel", "@h"),
                         tell("cancelled", "@h"), tell("cancel", "@h"), tell("cancelled", "@h"), sleep(0), tell=SAYS)
        self.assert_said([False, 1, False, None, True], let("h", "later", 1, "tell", 1), tell("cancelled", "@h"),
                         sleep(2), tell("cancelled", "@h"), tell("cancel", "@h"), tell("cancelled", "@h"), tell=SAYS)

    def test_a_handle_that_is_cancelled_within_its_turn_is_passed_over(self):
        self.assert_said(["cancels"], do("soon", "cancels"), let("H", "soon", "tell", 1), sleep(0), tell=SAYS,
                         cancels=plain(say("cancels"), do("cancel", "@H")))

    def test_a_handle_is_cancelled_without_a_message(self):
        for message in (None, "m", 1):
            self.assert_said([fault("TypeError"), False, 1], let("h", "soon", "tell", 1),
                             tell("cancel", "@h", message), tell("cancelled", "@h"), sleep(0), tell=SAYS)

    def test_neither_a_future_nor_a_handle(self):
        for value in (None, 1, "x", ("a",)):
            self.assert_fault("AttributeError", "cancel", value)
            self.assert_fault("AttributeError", "cancel", value, "m")
            self.assert_fault("AttributeError", "cancelled", value)
        for call in (("lock",), ("sleep", 1), ("timeout", 1), ("fault", "Odd")):
            self.assert_fault("AttributeError", "cancel", "@x", before=(let("x", *call),))
            self.assert_fault("AttributeError", "cancelled", "@x", before=(let("x", *call),))

    def test_when(self):
        self.assert_said([5, 3, 5], sleep(2), let("h", "later", 3, "tell", 1), tell("when", "@h"),
                         let("g", "at", 3, "tell", 1), tell("when", "@g"), do("cancel", "@h"), tell("when", "@h"),
                         do("cancel", "@g"), tell=SAYS)
        self.assert_said([fault("AttributeError"), 1], let("h", "soon", "tell", 1), tell("when", "@h"), sleep(0),
                         tell=SAYS)
        for value in (None, 1, "x"):
            self.assert_fault("AttributeError", "when", value)
        self.assert_fault("AttributeError", "when", "@f", before=(let("f", "future"),))

    def test_time_and_spend(self):
        self.assertEqual([(0, "Task-1", 0), (3, "Task-1", None), (3, "Task-1", 3), (3, "Task-1", None)],
                         log(tell("time"), tell("spend", 3), tell("time"), tell("spend", 0)))
        for value in (None, True, "1", (1,)):
            self.assert_fault("TypeError", "spend", value)
        self.assert_fault("ValueError", "spend", -1)

    def test_spending_lets_timers_come_late(self):
        self.assertEqual([(7, None, 1), (7, None, 2)],
                         log(do("at", 2, "tell", 1), do("at", 6, "tell", 2), do("spend", 7), sleep(1), tell=SAYS))

    def test_timers_with_one_time_come_as_the_heap_has_them(self):
        steps = [do("at", 1, "tell", number) for number in range(5)]
        self.assertEqual([0, 2, 1, 3, 4], numbers(log(*steps, sleep(2), tell=SAYS)))

    def test_stop_returns_none(self):
        self.assertEqual([(0, "Task-1", None)], log(tell("stop")))


class CountTest(Case):
    def life(self, *steps):
        life = Life(main(*steps, tell=SAYS), ("main",))
        return life, life.loop

    def test_only_timers_in_the_heap_are_counted_and_once(self):
        life, loop = self.life(let("h", "later", 5, "tell", 1), let("g", "soon", "tell", 2), do("cancel", "@g"),
                               do("cancel", "@h"), do("cancel", "@h"), let("k", "later", 1, "tell", 3), sleep(9))
        life.turn()
        self.assertEqual(1, loop.dropped_timers)

    def test_a_cancelled_timer_that_is_due_is_still_counted(self):
        life, loop = self.life(let("a", "at", 3, "tell", 1), let("b", "at", 5, "tell", 2), do("cancel", "@b"),
                               do("spend", 6), sleep(9))
        life.turn()
        self.assertEqual((1, 3), (loop.dropped_timers, len(loop.heap)))
        life.turn()
        self.assertEqual((1, 1), (loop.dropped_timers, len(loop.heap)))

    def test_the_top_that_is_cancelled_lessens_the_count(self):
        life, loop = self.life(let("a", "at", 1, "tell", 1), do("at", 5, "tell", 2), do("cancel", "@a"), sleep(9))
        life.turn()
        self.assertEqual((1, 3), (loop.dropped_timers, len(loop.heap)))
        life.turn()
        self.assertEqual((0, 5), (loop.dropped_timers, loop.now))

    def test_a_cancel_behind_its_turn_is_not_counted(self):
        life, loop = self.life(let("a", "at", 1, "tell", 1), do("at", 9, "tell", 1), sleep(2), do("cancel", "@a"),
                               sleep(9))
        for _ in range(4):
            life.turn()
        self.assertEqual((2, 0), (loop.now, loop.dropped_timers))

    def sweeping(self, many, dropped):
        steps = [let("h", "at", 1, "tell", 0), let("Hs", "it", ())]
        steps += [("each", "k", tuple(range(many - 1)), (
            let("h", "add", 50, "@k"), let("h", "at", "@h", "tell", "@k"), let("Hs", "add", "@Hs", ("@h",))))]
        steps += [("each", "k", tuple(range(many - 1 - dropped, many - 1)), (
            let("h", "item", "@Hs", "@k"), do("cancel", "@h")))]
        life, loop = self.life(*steps, do("soon", "tell", 1), let("f", "future"), ("await", None, ("it", "@f")))
        life.turn()
        self.assertEqual((dropped, many), (loop.dropped_timers, len(loop.heap)))
        life.turn()
        return loop.dropped_timers, len(loop.heap)

    def test_the_heap_is_swept_from_101_timers_on_if_more_than_half_are_cancelled(self):
        self.assertEqual((0, 50), self.sweeping(101, 51))
        self.assertEqual((50, 101), self.sweeping(101, 50))
        self.assertEqual((51, 102), self.sweeping(102, 51))
        self.assertEqual((60, 100), self.sweeping(100, 60))

    def test_the_count_can_be_greater_than_the_number_of_cancelled_timers(self):
        # 60 timers are cancelled, but come due below one that is not: the count stays, and has the heap swept.
        steps = [do("at", 1, "tell", "due")]
        steps += [("each", "k", tuple(range(60)), (let("h", "at", 2, "tell", "never"), do("cancel", "@h")))]
        steps += [do("spend", 3)]
        steps += [("each", "k", tuple(range(110)), (do("at", 90, "tell", "late"),)), let("H", "at", 91, "tell", 1)]
        steps += [do("cancel", "@H"), sleep(0), sleep(0)]
        life, loop = self.life(*steps)
        life.turn()
        life.turn()
        self.assertEqual((61, 111), (loop.dropped_timers, len(loop.heap)))
        life.turn()
        self.assertEqual((0, 110), (loop.dropped_timers, len(loop.heap)))

    def test_a_sweep_keeps_the_order_of_the_moves(self):
        steps = [("each", "k", tuple(range(40)), (do("at", 5, "tell", "@k"),)), let("Hs", "it", ())]
        steps += [("each", "k", tuple(range(70)), (let("h", "at", 6, "tell", 0), let("Hs", "add", "@Hs", ("@h",))))]
        steps += [("each", "h", "@Hs", (do("cancel", "@h"),)), sleep(9)]
        expected = [(5, number) for number in range(40)] + [(9, "sleep")]
        rows = []
        for entry in expected[:40] + [(6, None)] * 70 + expected[40:]:
            push(rows, entry, is_earlier)
        rows = [row for row in rows if row[1] is not None]
        make_heap(rows, is_earlier)
        order = [take_first(rows, is_earlier)[1] for _ in range(40)]
        self.assertNotEqual(sorted(order), order)
        self.assertEqual(order, said(*steps, tell=SAYS))


class ArrivalsTest(Case):
    OUTSIDE = ((2, "s", "a"), (2, "s", "b"), (5, "t", "c"), (5, "s", "d"))

    def test_reading_what_has_arrived(self):
        told = report(do("reader", "s", "reads", "s"), do("reader", "t", "reads", "t"), sleep(9),
                      outside=self.OUTSIDE, reads=READS)
        self.assertEqual([(2, None, "s", "a"), (2, None, "s", "b"), (5, None, "s", "d"), (5, None, "t", "c")],
                         told.log)

    def test_readable_sources_in_the_order_of_registration(self):
        rows = log(do("reader", "t", "reads", "t"), do("reader", "s", "reads", "s"), sleep(9),
                   outside=self.OUTSIDE, reads=READS)
        self.assertEqual([(2, None, "s", "a"), (2, None, "s", "b"), (5, None, "t", "c"), (5, None, "s", "d")], rows)

    def test_a_source_that_is_registered_again_keeps_its_place(self):
        rows = log(do("reader", "t", "tell", 1), do("reader", "s", "reads", "s"), tell("reader", "t", "reads", "t"),
                   sleep(9), outside=self.OUTSIDE, reads=READS, tell=SAYS)
        self.assertEqual((0, "Task-1", None), rows[0])
        self.assertEqual(["s", "s", "t", "s"], numbers(rows[1:]))

    def test_one_that_is_forgotten_and_registered_comes_last(self):
        rows = log(do("reader", "t", "reads", "t"), do("reader", "s", "reads", "s"), tell("unread", "t"),
                   do("reader", "t", "reads", "t"), sleep(9), outside=self.OUTSIDE, reads=READS)
        self.assertEqual([True, "s", "s", "s", "t"], numbers(rows))

    def test_a_source_is_readable_until_it_is_read(self):
        rows = log(do("reader", "s", "once"), sleep(0), sleep(0), sleep(0), do("unread", "s"),
                   outside=((0, "s", 1),), once=plain(say("readable")))
        self.assertEqual(["readable"] * 2, numbers(rows))

    def test_the_elder_handle_is_cancelled(self):
        rows = log(do("reader", "s", "tell", "old"), do("soon", "again"), *[sleep(0)] * 3, do("unread", "s"),
                   outside=((0, "s", 1),), tell=SAYS, again=plain(do("reader", "s", "tell", "new")))
        self.assertEqual(["new"], numbers(rows))

    def test_unread(self):
        self.assert_said([False, True, False, "end"], tell("unread", "s"), do("reader", "s", "tell", 1),
                         tell("unread", "s"), tell("unread", "s"), sleep(5), say("end"), outside=((1, "s", 1),),
                         tell=SAYS)
        for value in (None, 1, True, ("s",)):
            self.assert_said([False], tell("unread", value))

    def test_unread_cancels_a_handle_that_is_ready(self):
        self.assert_said(["out"], do("reader", "s", "tell", 1), do("soon", "out"), sleep(0), outside=((0, "s", 1),),
                         tell=SAYS, out=plain(say("out"), do("unread", "s")))

    def test_reading(self):
        blocked = fault("BlockingIOError")
        self.assert_said([blocked, blocked, "a", "b", blocked, "d"], tell("read", "s"), tell("read", "u"), sleep(2),
                         tell("read", "s"), tell("read", "s"), tell("read", "s"), sleep(3), tell("read", "s"),
                         outside=self.OUTSIDE)
        for value in (None, 1, True, ("s",)):
            self.assert_fault("BlockingIOError", "read", value)
            self.assert_fault("TypeError", "reader", value, "tell", 1, tell=SAYS)
        self.assert_fault("BlockingIOError", "read", "@f", before=(let("f", "future"),))

    def test_what_has_arrived_at_a_source_that_is_registered_late(self):
        rows = log(sleep(6), do("reader", "s", "reads", "s"), sleep(3), outside=self.OUTSIDE, reads=READS)
        self.assertEqual([(6, None, "s", "a"), (6, None, "s", "b"), (6, None, "s", "d")], rows)

    def test_only_registered_sources_wake_the_loop(self):
        told = report(let("f", "future"), ("await", None, ("it", "@f")), outside=((4, "s", 1),))
        self.assertEqual((("stuck",), 0), (told.outcome, told.now))
        told = report(do("reader", "s", "reads", "s"), let("f", "future"), ("await", None, ("it", "@f")),
                      outside=((4, "s", 1),), reads=READS)
        self.assertEqual((("stuck",), 4), (told.outcome, told.now))

    def test_the_wrong_number_of_args(self):
        told = report(do("reader", "s", "reads"), sleep(0), sleep(0), do("unread", "s"), outside=((0, "s", 1),),
                      reads=READS)
        self.assertEqual([("Exception in callback reads", "reads", fault("TypeError"))],
                         [note[1:] for note in told.notes])


class TurnsTest(Case):
    def test_the_loop_waits_for_what_comes_first(self):
        rows = log(do("reader", "s", "reads", "s"), do("at", 3, "tell", "t"), sleep(9), reads=READS, tell=SAYS,
                   outside=((4, "s", 1),))
        self.assertEqual([3, 4], [row[0] for row in rows])

    def test_arrivals_stand_ahead_of_timers(self):
        rows = log(do("at", 4, "tell", "t"), do("reader", "s", "reads", "s"), sleep(9), reads=READS, tell=SAYS,
                   outside=((4, "s", 1),))
        self.assertEqual(["s", "t"], numbers(rows))

    def test_the_clock_does_not_go_back(self):
        self.assertEqual([(5, None, 1)], log(do("spend", 5), do("at", 2, "tell", 1), sleep(3), tell=SAYS))

    def test_the_clock_stays_as_long_as_something_is_ready(self):
        self.assertEqual([(0, None, "again"), (0, None, "again"), (0, "Task-1", "end")],
                         log(do("at", 1, "tell", "t"), do("soon", "again"), sleep(0), do("soon", "again"), sleep(0),
                             say("end"), tell=SAYS, again=plain(say("again"))))

    def test_a_cancelled_handle_keeps_the_loop_from_waiting(self):
        told = report(let("h", "soon", "tell", 1), do("cancel", "@h"), do("at", 3, "tell", 1), sleep(3), tell=SAYS)
        self.assertEqual(3, told.now)
        life = Life(main(let("h", "soon", "tell", 1), do("cancel", "@h"), sleep(3), tell=SAYS), ("main",))
        clocks = []
        for _ in range(3):
            life.turn()
            clocks.append(life.loop.now)
        self.assertEqual([0, 0, 3], clocks)

    def test_as_many_handles_as_are_ready_now(self):
        life = Life(main(do("soon", "again"), sleep(9), again=plain(say("a"), do("soon", "again"))), ("main",))
        rows = []
        for _ in range(4):
            life.turn()
            rows.append(len(life.log))
        self.assertEqual([0, 1, 2, 3], rows)

    def test_stuck(self):
        told = report(let("f", "future"), say("x"), ("await", None, ("it", "@f")))
        self.assertEqual((("stuck",), 1, 0), (told.outcome, told.turns, told.now))
        told = report(let("f", "future"), let("h", "later", 3, "tell", 1), do("cancel", "@h"),
                      ("await", None, ("it", "@f")), tell=SAYS)
        self.assertEqual((("stuck",), 1, 0), (told.outcome, told.turns, told.now))

    def test_other_faults_go_to_the_handler_and_the_turn_goes_on(self):
        told = report(throw("Odd"), throw("CancelledError"), do("soon", "tell", 1),
                      sleep(0), throw=RAISE, tell=SAYS)
        self.assertEqual([1], numbers(told.log))
        self.assertEqual([fault("Odd"), fault("CancelledError")], [note[3] for note in told.notes])

    def test_great_faults_end_the_turn_and_the_run(self):
        for kind in ("SystemExit", "KeyboardInterrupt"):
            told = report(throw(kind), do("soon", "tell", 1), sleep(5), say("never"), throw=RAISE,
                          tell=SAYS)
            self.assertEqual(("fault", fault(kind)), told.outcome)
            self.assertEqual([(0, None, 1)], told.log)
            self.assertEqual([], told.notes)

    def test_the_rest_of_the_handles_stays_in_the_queue(self):
        life = Life(main(throw("SystemExit"), do("soon", "tell", 1), sleep(5), throw=RAISE, tell=SAYS),
                    ("main",))
        self.assertEqual([True, True, True], [life.turn(), life.turn(), life.log == []])
        self.assertEqual([True, [(0, None, 1)]], [life.turn(), life.log])


if __name__ == "__main__":
    unittest.main()
