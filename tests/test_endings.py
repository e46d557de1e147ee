"""What never ends: fates, papers, sleepers, and what is out of reach [12.3 to 12.7]."""

import inspect
import unittest

from loopyard.endings import fate, is_fate, out_of_reach, sleepers
from loopyard.errors import BadProgram, BadValue, LoopError, Stuck, TooLong
from loopyard.program import Program
from loopyard.running import Life, run
from loopyard.sessions import Session
from tests.helper import SAYS, Case, asynced, catch, do, let, main, plain, say, sleep, wait

M = ("main",)
NEVER = asynced(let("f", "future"), wait("it", "@f"))
SPIN = ("while", ("it", 1), (sleep(0),))
TICK = asynced(("while", ("it", 1), (sleep("@n"),)), params=("n",))


def forever(*steps):
    return ("while", ("it", 1), steps)


def begun(name, *call):
    """A task of this name; nothing else has it."""
    return ("try", (let("c", *call), do("task", "@c", name), let("c", "it", 0)), (), (), ())


def life_of(program, turns):
    life = Life(program, M)
    for _ in range(turns):
        life.turn()
    return life


class FateCase(Case):
    def assert_fate(self, expected, *steps, most=300, outside=(), **routines):
        program = Program({"main": asynced(*steps), **routines}, outside=outside)
        self.assertEqual(expected, fate(program, M, most))
        if expected[0] == "open":
            self.assertFalse(is_fate(program, M, expected))
        else:
            self.assertTrue(is_fate(program, M, expected))
            # It is told from just so many turns on.
            turns = sum(expected[1:])
            self.assertEqual(expected, fate(program, M, turns))
            if turns > 1:
                self.assertEqual(("open", turns - 1), fate(program, M, turns - 1))


class FateTest(FateCase):
    def test_over(self):
        self.assert_fate(("over", 6))
        self.assert_fate(("over", 9), sleep(0), sleep(3))
        self.assert_fate(("over", 6), let("x", "fault", "Odd"), ("raise", "@x"))
        self.assert_fate(("over", 5), let("x", "fault", "SystemExit"), ("raise", "@x"))
        self.assert_fate(("over", 10), begun("t", "call", "never"), sleep(0), never=NEVER)

    def test_stuck(self):
        self.assert_fate(("stuck", 1), let("f", "future"), wait("it", "@f"))
        self.assert_fate(("stuck", 4), sleep(0), sleep(3), let("f", "future"), wait("it", "@f"))
        # A timer that is cancelled, a source at which nothing will come: they do not count.
        self.assert_fate(("stuck", 1), let("h", "later", 5, "tell", 1), do("cancel", "@h"), do("reader", "s", "tell", 1),
                         let("f", "future"), wait("it", "@f"), tell=SAYS)
        self.assert_fate(("stuck", 3), let("h", "later", 5, "tell", 1), do("later", 2, "tell", 2), do("cancel", "@h"),
                         let("f", "future"), sleep(2), wait("it", "@f"), tell=SAYS)
        self.assert_fate(("stuck", 2), do("reader", "s", "take"), let("f", "future"), wait("it", "@f"),
                         take=plain(do("read", "s")), outside=((4, "s", 1), (5, "t", 2)))
        # A life that is stuck while what is left is cancelled.
        self.assert_fate(("stuck", 4), begun("t", "call", "stubborn"), sleep(0),
                         stubborn=asynced(catch(sleep(9), then=()), let("f", "future"), wait("it", "@f")))

    def test_rounds(self):
        self.assert_fate(("round", 1, 1), SPIN)
        self.assert_fate(("round", 1, 2), forever(sleep(5)))
        self.assert_fate(("round", 4, 1), sleep(0), sleep(3), SPIN)
        self.assert_fate(("round", 1, 3), let("n", "it", 0), forever(
            let("n", "add", "@n", 1), ("if", ("same", "@n", 3), (let("n", "it", 0),), ()), sleep(0)))
        self.assert_fate(("round", 3, 4), let("n", "it", 0), forever(
            let("n", "add", "@n", 1), ("if", ("same", "@n", 7), (let("n", "it", 3),), ()), sleep(0)))

    def test_rounds_of_callbacks(self):
        chain = plain(("if", ("same", "@n", 2), (let("n", "it", -1),), ()), let("n", "add", "@n", 1), do("soon", "chain", "@n"),
                      params=("n",))
        steps = (do("soon", "chain", 0), let("f", "future"), wait("it", "@f"))
        self.assert_fate(("round", 1, 3), *steps, chain=chain)
        chain = plain(do("later", 3, "chain"))
        self.assert_fate(("round", 1, 1), do("later", 3, "chain"), *steps[1:], chain=chain)
        # Two chains of timers are at the same distance again behind 12 ticks.
        self.assert_fate(("round", 1, 6), do("later", 3, "chain"), do("later", 4, "other"), *steps[1:], chain=chain,
                         other=plain(do("later", 4, "other")))

    def test_rounds_while_what_is_left_is_cancelled(self):
        stubborn = asynced(catch(sleep(9), then=()), forever(sleep(0), sleep(0)))
        # The timer of its sleep, which was cancelled, is popped by the turn behind that.
        self.assert_fate(("round", 5, 2), begun("t", "call", "stubborn"), sleep(0), stubborn=stubborn)

    def test_open(self):
        self.assert_fate(("open", 300), let("n", "it", 0), forever(let("n", "add", "@n", 1), sleep(0)))
        self.assert_fate(("open", 40), let("x", "it", ()), forever(let("x", "add", "@x", (1,)), sleep(0)), most=40)
        self.assert_fate(("open", 1), SPIN, most=1)
        self.assert_fate(("open", 20), let("n", "it", 0), ("while", ("less", "@n", 15), (let("n", "add", "@n", 1), sleep(0))), most=20)
        # As one more turn would tell.
        self.assert_fate(("over", 21), let("n", "it", 0), ("while", ("less", "@n", 15), (let("n", "add", "@n", 1), sleep(0))), most=21)

    def test_what_is_looked_at_in_between_is_told_rightly(self):
        for many in (18, 19, 20, 21, 22, 40, 190, 199, 200, 201, 220):
            count = (let("n", "add", "@n", 1), ("if", ("same", "@n", many), (let("n", "it", 0),), ()), sleep(0))
            self.assert_fate(("round", 1, many), let("n", "it", 0), forever(*count))
            self.assert_fate(("round", many + 1, 1), let("n", "it", 0), ("while", ("less", "@n", many), (
                let("n", "add", "@n", 1), sleep(0))), SPIN)
            self.assert_fate(("round", many - 2, 3), let("n", "it", 0), forever(
                let("n", "add", "@n", 1), ("if", ("same", "@n", many + 1), (let("n", "it", many - 2),), ()), sleep(0)))

    def test_the_clock(self):
        ticking = forever(do("spend", 1), sleep(0))
        self.assert_fate(("round", 1, 1), ticking)
        for op in (("time",), ("when", 1), ("at", 1, "tell", 1), ("timeout_at", 1), ("reschedule", 1, 1)):
            self.assert_fate(("open", 300), ticking, tell=SAYS, probe=plain(do(*op)))
            self.assert_fate(("round", 1, 1), SPIN, tell=SAYS, probe=plain(do(*op)))

    def test_names(self):
        begins = forever(begun(None, "sleep", 0), sleep(0))
        self.assert_fate(("round", 2, 1), begins)
        self.assert_fate(("open", 300), begins, probe=plain(do("name", 1)))
        self.assert_fate(("round", 2, 1), forever(begun("own", "sleep", 0), sleep(0)), probe=plain(do("name", 1)))

    def test_log_and_notes(self):
        self.assert_fate(("round", 1, 1), forever(say("again"), sleep(0)))
        self.assert_fate(("round", 1, 1), forever(do("soon", "fails"), sleep(0)), fails=plain(("raise", 1)))
        self.assert_fate(("round", 1, 1), forever(let("x", "future"), say("@x"), sleep(0)))

    def test_what_is_left_behind(self):
        # A cancelled timer stays in the heap until it comes to the top, or the heap is swept.
        self.assert_fate(("round", 1, 1), forever(let("h", "later", 5, "tell", 1), do("cancel", "@h"), sleep(0)), tell=SAYS)
        self.assert_fate(("round", 3, 2), forever(("with", None, ("timeout", 7), (sleep(1),))))
        # Below one that is not cancelled they gather, until more than 100 timers stand there.
        steps = (do("later", 5, "tell", 1), forever(let("h", "later", 9, "tell", 1), do("cancel", "@h"), sleep(0)))
        self.assert_fate(("round", 1, 100), *steps, tell=SAYS)

    def test_the_count_of_cancelled_timers_comes_again(self):
        # All timers but the first one of each time are cancelled, and come due below it: the count grows.
        steps = forever(do("at", 0, "tell"), let("h", "later", 0, "tell"), do("cancel", "@h"), let("h", "it", 0), sleep(0))
        self.assert_fate(("open", 150), steps, most=150, tell=plain())

    def test_sources(self):
        takes = plain(do("read", "s"))
        self.assert_fate(("round", 5, 2), do("reader", "s", "take"), forever(sleep(2)), take=takes, outside=((3, "s", 1), (4, "s", 2)))
        # It is readable again and again.
        self.assert_fate(("round", 2, 1), do("reader", "s", "looks"), let("f", "future"), wait("it", "@f"), looks=plain(do("it", 1)),
                         outside=((3, "s", 1),))

    def test_other_lists_each_time(self):
        program = main(SPIN)
        self.assertIs(tuple, type(fate(program, M, 5)))
        self.assertEqual(fate(program, M, 5), fate(program, M, 5))


class PaperTest(Case):
    COUNT = main(let("n", "it", 0), sleep(0), forever(let("n", "add", "@n", 1), ("if", ("same", "@n", 3), (let("n", "it", 0),), ()),
                                                      sleep(0)))

    def test_rounds(self):
        self.assertEqual(("round", 2, 3), fate(self.COUNT, M, 9))
        for first in range(8):
            for period in range(1, 12):
                expected = first >= 2 and period % 3 == 0
                self.assertIs(expected, is_fate(self.COUNT, M, ("round", first, period)), (first, period))

    def test_bounds_of_rounds(self):
        self.assertTrue(is_fate(self.COUNT, M, ("round", 2, 1998)))
        self.assertTrue(is_fate(self.COUNT, M, ("round", 1997, 3)))
        for first, period in ((3, 1998), (1998, 3), (2, 0), (2, -3), (-1, 3), (-3, 6), (2000, 3), (0, 2000), (2, 10**30), (10**30, 3)):
            self.assertIs(False, is_fate(self.COUNT, M, ("round", first, period)), (first, period))
        self.assertFalse(is_fate(main(SPIN), M, ("round", 0, 1)))
        self.assertFalse(is_fate(main(SPIN), M, ("round", 2000, 0)))
        self.assertTrue(is_fate(main(SPIN), M, ("round", 1999, 1)))

    def test_ends(self):
        over, stuck = main(sleep(3)), main(sleep(3), let("f", "future"), wait("it", "@f"))
        for turns in range(-2, 13):
            self.assertIs(turns == 8, is_fate(over, M, ("over", turns)))
            self.assertIs(turns == 3, is_fate(stuck, M, ("stuck", turns)))
            for first, period in ((turns, 1), (1, turns), (turns, 2)):
                self.assertFalse(is_fate(over, M, ("round", first, period)))
                self.assertFalse(is_fate(stuck, M, ("round", first, period)))
            self.assertFalse(is_fate(over, M, ("stuck", turns)) or is_fate(stuck, M, ("over", turns)))
            self.assertFalse(is_fate(self.COUNT, M, ("over", turns)) or is_fate(self.COUNT, M, ("stuck", turns)))
        self.assertFalse(is_fate(over, M, ("over", 10**30)))

    def test_the_last_turn_that_counts(self):
        def counting(most, *steps):
            return main(let("n", "it", 0), ("while", ("less", "@n", most), (let("n", "add", "@n", 1), sleep(0))), *steps)
        never = (let("f", "future"), wait("it", "@f"))
        self.assertEqual(("over", 2000), fate(counting(1994), M, 2000))
        self.assertTrue(is_fate(counting(1994), M, ("over", 2000)))
        self.assertFalse(is_fate(counting(1995), M, ("over", 2001)))
        self.assertEqual(("open", 2000), fate(counting(1995), M, 2000))
        self.assertEqual(("stuck", 2000), fate(counting(1999, *never), M, 2000))
        self.assertTrue(is_fate(counting(1999, *never), M, ("stuck", 2000)))
        self.assertFalse(is_fate(counting(2000, *never), M, ("stuck", 2001)))
        self.assertEqual(("round", 1999, 1), fate(counting(1998, SPIN), M, 2000))
        self.assertEqual(("open", 2000), fate(counting(1999, SPIN), M, 2000))

    def test_any_value(self):
        program = main(SPIN)
        papers = [None, True, 0, 1, "round", "over", b"round", 1.5, (), [], {}, set(), frozenset(), object(), int, program,
                  LoopError("x"), Life(program, M), ("round",), ("round", 1), ("round", 1, 1, 1), ("over",), ("over", 6, 6), ("open", 5),
                  ("round", 1, True), ("round", True, 1), ("round", "1", 1), ("round", 1, 1.0), ("round", (1,), 1), ("round", None, 1),
                  ["round", 1, 1], ("Round", 1, 1), (b"round", 1, 1), (("round",), 1, 1), (1, 1, 1), ("over", True), ("stuck", None),
                  ("over", 6.0), ([], 1), ({}, 1, 1), ("round", [], {}), "round11", range(3), ("rounds", 1, 1)]
        for paper in papers:
            self.assertIs(False, is_fate(program, M, paper), paper)
        self.assertIs(True, is_fate(program, M, ("round", 1, 1)))
        self.assertIs(False, is_fate(main(), M, ("over", True)))
        self.assertIs(True, is_fate(main(), M, ("over", 6)))


class SleepersTest(Case):
    def check(self, expected, *steps, most=200, **routines):
        program = main(*steps, **routines)
        self.assertEqual(expected, sleepers(program, M, most))
        self.assertIsNot(sleepers(program, M, most), sleepers(program, M, most))

    def test_over(self):
        self.check([], begun("a", "call", "never"), sleep(0), never=NEVER)
        self.check([])
        # Also where a task is pending when the loop is closed.
        self.check([], begun("a", "call", "makes"), sleep(0), never=NEVER,
                   makes=asynced(catch(sleep(9), then=()), begun("b", "call", "never")))

    def test_stuck(self):
        self.check(["Task-1"], let("f", "future"), wait("it", "@f"))
        self.check(["Task-1", "b", "a"], begun("b", "call", "never"), begun("a", "call", "never"), begun("c", "sleep", 5),
                   let("f", "future"), wait("it", "@f"), never=NEVER)
        self.check(["a"], begun("a", "call", "stubborn"), sleep(0),
                   stubborn=asynced(catch(sleep(9), then=()), let("f", "future"), wait("it", "@f")))

    def test_rounds(self):
        self.check([], SPIN)
        self.check(["a"], begun("a", "call", "never"), SPIN, never=NEVER)
        self.check(["a", "Task-2", "b"], begun("a", "call", "never"), begun("x", "call", "tick", 3), begun(None, "call", "never"),
                   begun("y", "call", "tick", 2), begun("b", "call", "never"), forever(sleep(1)), never=NEVER, tick=TICK)
        # The clock stands still: who sleeps stands for ever.
        self.check(["x"], begun("x", "call", "tick", 3), SPIN, tick=TICK)

    def test_main_may_sleep_too(self):
        self.check(["Task-1"], begun("x", "call", "tick", 1), let("f", "future"), wait("it", "@f"), tick=TICK)

    def test_a_task_in_reach_may_stand_for_ever(self):
        self.check(["a", "b", "c"], let("F", "future"), let("L", "lock"), wait("acquire", "@L"), let("Q", "queue"),
                   begun("a", "call", "waits"), begun("b", "acquire", "@L"), begun("c", "get", "@Q"), SPIN, waits=asynced(wait("it", "@F")))

    def test_who_waits_for_a_sleeper(self):
        self.check(["a", "b", "c"], let("c", "call", "never"), let("t", "task", "@c", "a"), let("c", "call", "joins", "@t"),
                   let("t", "task", "@c", "b"), begun("c", "wait", ("@t",)), SPIN, never=NEVER, joins=asynced(wait("it", "@t"), params=("t",)))

    def test_who_does_a_step_at_last(self):
        # Each time a new task takes the place of the one that is woken: each stands through a period, none for ever.
        self.check([], let("A", "future"), let("B", "future"), forever(
            begun(None, "call", "waits", "@A"), sleep(0), do("set_result", "@B", 1), let("B", "it", "@A"), let("A", "future")),
            waits=asynced(wait("it", "@f"), params=("f",)))
        self.check(["x"], begun("x", "call", "never"), let("A", "future"), let("B", "future"), let("C", "future"), forever(
            begun(None, "call", "waits", "@A"), sleep(0), do("set_result", "@C", 1), let("C", "it", "@B"), let("B", "it", "@A"),
            let("A", "future")), waits=asynced(wait("it", "@f"), params=("f",)), never=NEVER)

    def test_who_stands_within_a_period_but_not_through_it(self):
        self.check([], begun("x", "call", "tick", 7), forever(sleep(5)), tick=TICK)

    def test_a_task_that_is_made_in_each_period(self):
        self.check(["a"], begun("a", "call", "never"), forever(begun("b", "sleep", 2), sleep(3)), never=NEVER)

    def test_open(self):
        program = main(begun("a", "call", "never"), let("n", "it", 0), forever(let("n", "add", "@n", 1), sleep(0)), never=NEVER)
        for most in (1, 30, 300):
            with self.assertRaises(TooLong) as caught:
                sleepers(program, M, most)
            self.assertEqual(most, caught.exception.turns)


class ReachTest(Case):
    def check(self, expected, *steps, turns=3, outside=(), **routines):
        life = life_of(Program({"main": asynced(*steps), **routines}, outside=outside), turns)
        self.assertEqual(expected, out_of_reach(life))

    IDLE = begun("idle", "call", "never")

    def test_nobody_has_it(self):
        self.check(["idle"], self.IDLE, SPIN, never=NEVER)
        self.check(["idle", "other"], self.IDLE, begun("other", "call", "never"), SPIN, never=NEVER)
        self.check([], SPIN)
        self.check(["Task-1"], let("f", "future"), wait("it", "@f"), turns=1)

    def test_variables_of_what_comes(self):
        waits = asynced(wait("it", "@f"), params=("f",))
        self.check([], let("x", "future"), begun("idle", "call", "waits", "@x"), SPIN, waits=waits)
        self.check([], let("X", "future"), begun("idle", "call", "waits", "@X"), SPIN, waits=waits)
        self.check([], let("x", "future"), begun("idle", "call", "waits", "@x"), let("y", "it", ((1, "@x"),)), let("x", "it", 0), SPIN,
                   waits=waits)
        self.check([], let("c", "call", "never"), let("x", "task", "@c", "idle"), SPIN, never=NEVER)
        self.check(["idle"], let("x", "future"), begun("idle", "call", "waits", "@x"), let("x", "it", 0), SPIN, waits=waits)
        self.check([], let("x", "future"), let("e", "fault", "Odd", "@x"), begun("idle", "call", "waits", "@x"), let("x", "it", 0), SPIN,
                   waits=waits)

    def test_args_of_handles(self):
        waits = asynced(wait("it", "@f"), params=("f",))
        lays = (let("x", "future"), begun("idle", "call", "waits", "@x"))
        routines = dict(waits=waits, sets=plain(do("set_result", "@f", 1), params=("f",)))
        forget = (let("x", "it", 0), let("h", "it", 0))
        self.check([], *lays, do("later", 9, "sets", "@x"), *forget, SPIN, **routines)
        self.check(["idle"], *lays, let("h", "later", 9, "sets", "@x"), do("cancel", "@h"), *forget, SPIN, **routines)
        self.check([], *lays, let("h", "later", 9, "sets", "@x"), do("cancel", "@h"), let("x", "it", 0), SPIN, **routines)
        self.check([], *lays, do("soon", "sets", "@x"), *forget, SPIN, turns=1, **routines)
        # Cancelled ones that are ready, and what is below in the heap.
        self.check(["idle"], *lays, sleep(0), let("h", "soon", "sets", "@x"), do("cancel", "@h"), *forget, SPIN, turns=2, **routines)

    def test_sources(self):
        waits = asynced(wait("it", "@f"), params=("f",))
        routines = dict(waits=waits, sets=plain(do("set_result", "@f", 1), params=("f",)))
        lays = (let("x", "future"), begun("idle", "call", "waits", "@x"), do("reader", "s", "sets", "@x"), let("x", "it", 0))
        self.check([], *lays, SPIN, outside=((9, "s", 1),), **routines)
        self.check(["idle"], *lays, SPIN, outside=((9, "t", 1),), **routines)
        self.check(["idle"], *lays, SPIN, **routines)
        self.check(["idle"], *lays, do("read", "s"), SPIN, outside=((0, "s", 1),), **routines)
        self.check([], *lays, do("read", "s"), SPIN, outside=((0, "s", 1), (9, "s", 2)), **routines)
        self.check(["idle"], *lays, do("unread", "s"), SPIN, outside=((9, "s", 1),), **routines)
        # Something is unread there.
        self.check([], *lays, do("handler", "swallow"), SPIN, outside=((0, "s", 1),), swallow=plain(params=("a", "b", "c")), **routines)

    def test_tasks(self):
        for op in (("tasks",), ("size", "@x")):
            expected = [] if op == ("tasks",) else ["idle"]
            self.check(expected, self.IDLE, SPIN, never=NEVER, probe=plain(do(*op)))
            # Only activations and plain routines as callbacks lead to them.
            self.check(["Task-1", "idle"], self.IDLE, begun("s", "sleep", 99), let("f", "future"), wait("it", "@f"), never=NEVER,
                       probe=plain(do(*op)), turns=2)
            self.check(expected if op == ("tasks",) else ["Task-1", "idle"], self.IDLE, do("later", 9, "probe"), let("f", "future"),
                       wait("it", "@f"), never=NEVER, probe=plain(do(*op)), turns=2)

    def test_shared_variables(self):
        keeps = (let("X", "future"), begun("idle", "call", "waits"), let("f", "future"))
        waits = asynced(wait("it", "@X"))
        routines = dict(waits=waits, tell=plain())
        # A sleep alone leads to no activation; a plain routine does, also one that a future or a wait_until has.
        self.check(["Task-1", "idle"], *keeps, begun("s", "sleep", 99), wait("it", "@f"), **routines, turns=2)
        self.check(["Task-1"], *keeps, do("later", 9, "tell"), wait("it", "@f"), **routines, turns=2)
        self.check(["Task-1"], *keeps, let("c", "sleep", 9), let("s", "task", "@c"), do("on_done", "@s", "tell"), wait("it", "@f"),
                   **routines, turns=2)
        self.check(["Task-1"], *keeps, begun("s", "call", "sleeps"), wait("it", "@f"), sleeps=asynced(sleep(9)), **routines, turns=2)
        self.check(["Task-1"], *keeps, let("c", "condition"), wait("acquire", "@c"), let("u", "wait_until", "@c", "tell"),
                   let("t", "task", "@u", "until"), let("u", "it", 0), sleep(0), wait("acquire", "@c"), let("h", "wait_on", "@c"),
                   let("w", "task", "@h"), begun("s", "wait_for", "@w", 9), wait("it", "@f"), **routines, turns=3)

    def test_what_things_have(self):
        waits = asynced(wait("it", "@f"), params=("f",))
        begin = begun("idle", "call", "waits", "@x")
        for maker, hides in (
                (("future",), (let("y", "gather", ("@x",)), let("x", "it", 0))),
                (("future",), (let("y", "shield", "@x"), let("x", "it", 0))),
                (("future",), (let("y", "as_completed", ("@x",)), let("x", "it", 0))),
                (("future",), (let("y", "wait", ("@x",)), let("x", "it", 0))),
                (("future",), (let("y", "queue"), do("put_nowait", "@y", "@x"), let("x", "it", 0))),
                (("future",), (let("y", "future"), do("set_result", "@y", "@x"), let("x", "it", 0))),
                (("future",), (let("y", "call", "waits", "@x"), let("x", "it", 0))),
                (("future",), (let("y", "soon", "tell", "@x"), let("x", "it", 0)))):
            self.check([], let("x", *maker), begin, *hides, SPIN, waits=waits, tell=SAYS)
            self.check(["idle"], let("x", *maker), begin, *hides, let("y", "it", 0), SPIN, waits=waits, tell=SAYS)

    def test_rows_of_waiters(self):
        for maker, call in ((("lock",), "acquire"), (("event",), "wait_on"), (("semaphore", 0), "acquire"), (("queue",), "get"),
                            (("barrier", 2), "wait_on")):
            ahead = (let("x", *maker), *((wait("acquire", "@x"),) if maker == ("lock",) else ()))
            self.check([], *ahead, begun("idle", call, "@x"), SPIN)
            self.check(["idle"], *ahead, begun("idle", call, "@x"), let("x", "it", 0), SPIN)

    def test_callbacks_of_what_comes(self):
        # A future is in reach; who waits for something that hangs on it is, too.
        waits = asynced(wait("it", "@f"), params=("f",))
        for call in (("gather", ("@x",)), ("gather", ("@x",), True), ("shield", "@x")):
            self.check([], let("x", "future"), let("g", *call), begun("idle", "call", "waits", "@g"), let("g", "it", 0), SPIN, waits=waits)
        for call in (("wait", ("@x",)), ("wait_for", "@x", 9), ("wait_for", "@x", None)):
            self.check([], let("x", "future"), begun("idle", *call), SPIN)
        turns = asynced(("async_each", "k", "@e", ()), params=("e",))
        self.check([], let("x", "future"), let("e", "as_completed", ("@x",)), begun("idle", "call", "each", "@e"), let("e", "it", 0),
                   SPIN, each=turns)

    def test_groups_and_timeouts(self):
        # A task of the group may cancel the parent, and a timer the task that entered the Timeout.
        holds = asynced(("with", "g", ("group",), (let("c", "call", "never"), let("T", "start", "@g", "@c", "member"), let("c", "it", 0),
                                                   let("g", "it", 0), let("f", "future"), wait("it", "@f"))))
        self.check([], begun("parent", "call", "holds"), SPIN, holds=holds, never=NEVER)
        self.check(["parent", "member"], begun("parent", "call", "holds"), sleep(0), let("T", "it", 0), SPIN, holds=holds, never=NEVER)
        timed = [asynced(("with", None, ("timeout", delay), (let("f", "future"), wait("it", "@f")))) for delay in (9, None)]
        self.check([], begun("idle", "call", "timed"), SPIN, timed=timed[0])
        self.check(["idle"], begun("idle", "call", "timed"), SPIN, timed=timed[1])

    def test_who_waits_for_what_comes(self):
        joins = asynced(wait("it", "@t"), params=("t",))
        self.check(["Task-1"], let("c", "call", "tick", 9), let("t", "task", "@c"), begun("joins", "call", "joins", "@t"),
                   let("t", "it", 0), let("f", "future"), wait("it", "@f"), joins=joins, tick=TICK)
        # But who is waited for is not come to from who waits for it.
        self.check(["idle", "joins"], let("c", "call", "never"), let("t", "task", "@c", "idle"), begun("joins", "call", "joins", "@t"),
                   let("t", "it", 0), SPIN, joins=joins, never=NEVER)

    def test_what_a_coroutine_has(self):
        # One that was not awaited has what it will carry out; one that is awaited does not lead to who awaits it.
        self.check(["idle"], let("c", "call", "never"), do("task", "@c", "idle"), SPIN, never=NEVER)
        self.check([], let("c", "call", "never"), do("task", "@c", "idle"), SPIN, never=NEVER, turns=1)

    def test_ahead_of_the_first_turn(self):
        self.check([], self.IDLE, SPIN, never=NEVER, turns=0)

    def test_behind_the_end(self):
        # The loop is closed: nothing can come any more.
        program = main(begun("a", "call", "makes"), sleep(0), never=NEVER, makes=asynced(catch(sleep(9), then=()), self.IDLE))
        life = Life(program, M)
        while life.turn():
            pass
        self.assertEqual((["idle"], ["idle"]), (life.pending(), out_of_reach(life)))

    def test_a_life_that_is_stuck(self):
        life = Life(main(self.IDLE, let("f", "future"), wait("it", "@f"), never=NEVER), M)
        self.assertRaises(Stuck, lambda: [life.turn() for _ in range(9)])
        self.assertEqual(["Task-1", "idle"], out_of_reach(life))

    def test_the_life_goes_on(self):
        life = Life(main(self.IDLE, forever(say("x"), sleep(0)), never=NEVER), M)
        for turns in range(9):
            self.assertEqual(["idle"] if turns > 1 else [], out_of_reach(life))
            life.turn()
        self.assertEqual((9, 9), (len(life.log), life.turns))


class ArgumentsTest(Case):
    PROGRAM = main()
    WRONG = (None, True, 0, 1.5, "main", b"x", [], {}, (), set(), object(), int, LoopError("x"))

    def place_of(self, function, *args):
        with self.assertRaises(BadProgram) as caught:
            function(*args)
        return caught.exception.place

    def test_signatures(self):
        self.assertEqual(["(program, call, most)", "(program, call, paper)", "(program, call, most)", "(life)"],
                         [str(inspect.signature(function)) for function in (fate, is_fate, sleepers, out_of_reach)])
        self.assertEqual(("over", 6), fate(program=self.PROGRAM, call=M, most=6))
        self.assertTrue(is_fate(program=self.PROGRAM, call=M, paper=("over", 6)))
        self.assertEqual([], sleepers(program=self.PROGRAM, call=M, most=6))
        self.assertEqual([], out_of_reach(life=Life(self.PROGRAM, M)))

    def test_programs_and_calls(self):
        for function in (fate, is_fate, sleepers):
            for wrong in self.WRONG:
                self.assertEqual((), self.place_of(function, wrong, ("none",), 0))
                self.assertEqual(("call",), self.place_of(function, self.PROGRAM, wrong, 0))
            self.assertEqual(("call",), self.place_of(function, self.PROGRAM, ("main", 1), 0))

    def test_most(self):
        for function in (fate, sleepers):
            for wrong in (None, True, False, 0, -1, 2001, 10**30, 1.0, "1", (1,), [], object(), int):
                self.assertRaises(BadValue, function, self.PROGRAM, M, wrong)
        self.assertEqual(("open", 1), fate(self.PROGRAM, M, 1))
        self.assertEqual(("over", 6), fate(self.PROGRAM, M, 2000))
        self.assertEqual([], sleepers(self.PROGRAM, M, 2000))

    def test_lives(self):
        for wrong in (*self.WRONG, self.PROGRAM, Session(self.PROGRAM), run(self.PROGRAM, M), Life):
            self.assertRaises(BadValue, out_of_reach, wrong)


if __name__ == "__main__":
    unittest.main()
