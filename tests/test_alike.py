"""Programs alike: bare logs, where they part, and their pace [13]."""

import inspect
import unittest

from loopyard.alike import bare, pace, parted
from loopyard.errors import BadProgram, BadValue, LoopError, TooLong
from loopyard.program import Program
from loopyard.running import Life
from tests.helper import Case, asynced, catch, do, let, main, plain, say, sleep, wait

M = ("main",)
NEVER = (let("f", "future"), wait("it", "@f"))
SPIN = ("while", ("it", 1), (sleep(0),))


def forever(*steps):
    return ("while", ("it", 1), steps)


def many(most, *steps):
    return ("try", (let("n", "it", 0), ("while", ("less", "@n", most), (let("n", "add", "@n", 1), *steps))), (), (), ())


class BareTest(Case):
    def check(self, expected, *steps, most=50, **routines):
        program = main(*steps, **routines)
        self.assertEqual(expected, bare(program, M, most))
        self.assertIsNot(bare(program, M, most), bare(program, M, most))

    def test_entries(self):
        self.check([(0, True, 1, "a", None, (1, ())), (3, True), (3, False, 7), (3, True, True)], say(1, "a", None, (1, ())), sleep(3),
                   say(), do("soon", "tell"), sleep(0), say(True), tell=plain(say(7)))

    def test_things_are_not_told_apart(self):
        made = {"future": "Future", "lock": "Lock", "event": "Event", "condition": "Condition", "semaphore": "Semaphore",
                "bounded": "BoundedSemaphore", "queue": "Queue", "lifo_queue": "Queue", "priority_queue": "Queue",
                "group": "TaskGroup"}
        for op, kind in made.items():
            self.check([(0, True, kind, (kind, kind))], let("x", op), let("y", op), say("@x", ("@y", "@x")))
        for call, kind in ((("soon", "tell"), "Handle"), (("later", 1, "tell"), "Handle"), (("sleep", 1), "Coroutine"),
                           (("call", "main"), "Coroutine"), (("barrier", 1), "Barrier"), (("timeout", 1), "Timeout"),
                           (("as_completed", ()), "Each"), (("gather", ()), "Future"), (("current",), "Task")):
            self.check([(0, True, kind)], let("x", *call), say("@x"), tell=plain())

    def test_tasks(self):
        self.check([(0, True, "Task", ("Task",)), (0, True, "a")], let("c", "sleep", 1), let("t", "task", "@c", "a"), let("m", "current"),
                   say("@t", ("@m",)), let("n", "name", "@t"), say("@n"))

    def test_faults(self):
        self.check([(0, True, ("fault", "Odd", 1, "Future", ("Task",)))], let("f", "future"), let("m", "current"),
                   let("x", "fault", "Odd", 1, "@f", ("@m",)), say("@x"))
        self.check([(0, True, ("fault", "ExceptionGroup", "m", (("fault", "Odd", "Future"),)))], let("f", "future"),
                   let("x", "fault", "Odd", "@f"), let("g", "group_of", "m", ("@x",)), say("@g"))

    def test_so_many_turns(self):
        steps = (forever(say("x"), sleep(2)),)
        for most in (1, 2, 3, 4, 2000):
            self.check([(2 * at, True, "x") for at in range((most + 1) // 2)], *steps, most=most)

    def test_until_it_is_over_or_stuck(self):
        self.check([(0, True, 1)], say(1), *NEVER, most=2000)
        self.check([(0, True, 1), (0, True, ("fault", "CancelledError"))], let("c", "call", "waits"), do("task", "@c"), sleep(0), say(1),
                   waits=asynced(catch(*NEVER, then=(say("@e"),))), most=2000)
        self.check([], most=2000)

    def test_no_more_turns_are_done(self):
        # The turn behind these would go on without end.
        self.check([(0, True, 1)], say(1), sleep(0), forever(let("x", "it", 1)), most=1)
        self.check([(0, True, 1)], say(1), sleep(3), forever(let("x", "it", 1)), most=2)


class PartedTest(Case):
    def check(self, expected, one, other, most=200, **routines):
        first, second = main(*one, **routines), main(*other, **routines)
        self.assertEqual(expected, parted(first, M, second, M, most))
        self.assertEqual(expected, parted(second, M, first, M, most))
        self.assertIsNone(parted(first, M, first, M, most))

    def test_lives_that_end(self):
        self.check(None, (), ())
        self.check(None, (say(1), say(2)), (say(1), let("x", "it", 5), say(2)))
        self.check(0, (say(1),), (say(2),))
        self.check(1, (say(1),), (say(1), say(2)))
        self.check(2, (say(1), say(2), say(3)), (say(1), say(2), say(4), say(5)))

    def test_the_clock_and_the_task(self):
        self.check(None, (sleep(3), say(1)), (sleep(1), sleep(2), say(1)))
        self.check(0, (sleep(3), say(1)), (sleep(2), say(1)))
        self.check(0, (say(1),), (do("soon", "tell"), sleep(0)), tell=plain(say(1)))
        self.check(None, (do("soon", "tell"), sleep(0)), (do("later", 0, "tell"), sleep(0)), tell=plain(say(1)))

    def test_entries_are_equal_as_python_tells(self):
        self.check(None, (say(1, (0,)),), (say(True, (False,)),))
        self.check(0, (say(1),), (say("1"),))
        self.check(0, (say(None),), (say(0),))
        self.check(0, (say(),), (say(None),))

    def test_how_they_go_on_does_not_matter(self):
        ends = ((say(1),), (say(1), *NEVER), (say(1), SPIN), (say(1), forever(sleep(3))), (say(1), let("x", "fault", "Odd"), ("raise", "@x")))
        for one in ends:
            for other in ends:
                self.check(None, one, other)
                self.check(1, one, (other[0], say(2), *other[1:]))

    def test_rounds(self):
        tick = forever(say("x"), sleep(2))
        self.check(None, (tick,), (forever(say("x"), sleep(1), sleep(1)),))
        self.check(None, (tick,), (say("x"), sleep(2), say("x"), sleep(1), sleep(0), sleep(1), tick))
        self.check(None, (tick,), (forever(say("x"), sleep(2), say("x"), sleep(2), say("x"), sleep(2)),))
        self.check(None, (forever(say("x"), sleep(2), say("x"), sleep(2)),), (forever(*(say("x"), sleep(2)) * 3),))
        self.check(1, (tick,), (forever(say("x"), sleep(3)),))
        self.check(1, (tick,), (say("x"),))
        self.check(3, (tick,), (*(say("x"), sleep(2)) * 3, *NEVER))
        self.check(3, (tick,), (*(say("x"), sleep(2)) * 3, SPIN))

    def test_rounds_of_the_clock_alone(self):
        # Each entry says the same, but the clocks part: at once, or behind many entries.
        self.check(1, (forever(say("x"), sleep(1)),), (forever(say("x"), sleep(0)),))
        self.check(9, (forever(*(say("x"), sleep(1)) * 9, sleep(1)),), (forever(say("x"), sleep(1)),))

    def test_where_they_part_late(self):
        # Rounds of 3 and 7 entries that are equal for as long as they can be.
        one, other = "abc", "abcabca"
        rows = [forever(*[step for sign in word for step in (say(sign), sleep(1))]) for word in (one, other)]
        self.check(7, (rows[0],), (rows[1],))
        # No two such rounds that are not equal for ever agree for longer than this.
        both = [[step for sign in word for step in (say(sign), sleep(1))] for word in ("aabaaba", "aab")]
        self.check(8, (forever(*both[0]),), (forever(*both[1]),))
        for ahead in range(1, 9):
            behind = [(say("x"), sleep(1)) * ahead, (forever(say("x"), sleep(1)),)]
            self.check(ahead, (*behind[0], forever(say("y"), sleep(1))), behind[1])

    def test_periods_that_are_multiples(self):
        counts = [(let("n", "it", 0), forever(say("x"), let("n", "add", "@n", 1), ("if", ("same", "@n", most), (
            let("n", "it", 0), *last), ()), sleep(1))) for most, last in ((4, ()), (6, ()), (6, (say("y"),)))]
        self.check(None, counts[0], counts[1])
        self.check(6, counts[0], counts[2])

    def test_an_open_fate(self):
        counts = (let("n", "it", 0), forever(say("x"), let("n", "add", "@n", 1), sleep(0)))
        for one, other in (((say(1),), counts), (counts, (say(1),)), (counts, counts), ((say("y"), *counts), counts)):
            with self.assertRaises(TooLong) as caught:
                parted(main(*one), M, main(*other), M, 60)
            self.assertEqual(60, caught.exception.turns)
        # Six turns are needed for a life that ends.
        self.assertRaises(TooLong, parted, main(), M, main(), M, 5)
        self.assertIsNone(parted(main(), M, main(), M, 6))
        self.assertRaises(TooLong, parted, main(), M, main(sleep(0)), M, 6)

    def test_calls(self):
        program = Program({"main": asynced(say("@n"), params=("n",)), "other": asynced(say(3))})
        self.assertIsNone(parted(program, ("main", 3), program, ("other",), 50))
        self.assertEqual(0, parted(program, ("main", 4), program, ("other",), 50))
        self.assertEqual(0, parted(program, ("main", "a"), main(say("b")), M, 50))

    def test_things(self):
        self.check(None, (let("f", "future"), let("g", "future"), say("@f", "@g")), (let("f", "future"), say("@f", "@f")))
        self.check(None, (let("c", "sleep", 0), let("t", "task", "@c", "a"), say("@t")), (let("t", "current"), say("@t")))
        self.check(0, (let("f", "future"), say("@f")), (let("f", "lock"), say("@f")))
        # The text of a kind is as the text itself.
        self.check(None, (let("f", "future"), say("@f")), (say("Future"),))

    def test_many_entries_in_one_turn(self):
        self.check(None, (many(900, say("x")),), (many(450, say("x"), say("x")),))
        self.check(900, (many(900, say("x")),), (many(450, say("x"), say("x")), say("x")))


class PaceTest(Case):
    def check(self, expected, *steps, most=200, **routines):
        self.assertEqual(expected, pace(main(*steps, **routines), M, most))

    def test_rounds(self):
        self.check((0, 0, 0), SPIN)
        self.check((0, 0, 3), forever(sleep(3)))
        self.check((1, 1, 2), forever(say("x"), sleep(2)))
        self.check((0, 1, 2), forever(sleep(2), say("x")))
        self.check((4, 2, 5), say(1), sleep(9), say(2), forever(say("x"), do("spend", 2), say("y"), sleep(3)))
        self.check((1, 3, 3), let("n", "it", 0), forever(say("@n"), let("n", "add", "@n", 1), (
            "if", ("same", "@n", 3), (let("n", "it", 0),), ()), sleep(1)))

    def test_ahead_of_the_round(self):
        self.check((3, 1, 1), *(say("x"), sleep(4)) * 2, forever(say("x"), sleep(1)))

    def test_lives_that_end(self):
        self.check(None)
        self.check(None, say(1), *NEVER)

    def test_open(self):
        with self.assertRaises(TooLong) as caught:
            pace(main(SPIN), M, 1)
        self.assertEqual(1, caught.exception.turns)
        self.assertEqual((0, 0, 0), pace(main(SPIN), M, 2))


class ArgumentsTest(Case):
    PROGRAM = main()
    WRONG = (None, True, 0, 1.5, "main", b"x", [], {}, (), set(), object(), int, LoopError("x"), Life(PROGRAM, M))

    def place_of(self, function, *args):
        with self.assertRaises(BadProgram) as caught:
            function(*args)
        return caught.exception.place

    def test_signatures(self):
        self.assertEqual(["(program, call, most)", "(program, call, other, other_call, most)", "(program, call, most)"],
                         [str(inspect.signature(function)) for function in (bare, parted, pace)])
        self.assertEqual([], bare(program=self.PROGRAM, call=M, most=6))
        self.assertIsNone(parted(program=self.PROGRAM, call=M, other=self.PROGRAM, other_call=M, most=6))
        self.assertIsNone(pace(program=self.PROGRAM, call=M, most=6))

    def test_programs_and_calls(self):
        for wrong in self.WRONG:
            for function in (bare, pace):
                self.assertEqual((), self.place_of(function, wrong, wrong, 0))
                self.assertEqual(("call",), self.place_of(function, self.PROGRAM, wrong, 0))
            # First for the first life, then for the second one.
            self.assertEqual((), self.place_of(parted, wrong, M, self.PROGRAM, wrong, 0))
            self.assertEqual(("call",), self.place_of(parted, self.PROGRAM, wrong, wrong, wrong, 0))
            self.assertEqual((), self.place_of(parted, self.PROGRAM, M, wrong, wrong, 0))
            self.assertEqual(("call",), self.place_of(parted, self.PROGRAM, M, self.PROGRAM, wrong, 0))

    def test_most(self):
        for wrong in (None, True, False, 0, -1, 2001, 10**30, 1.0, "1", (1,), [], object(), int):
            self.assertRaises(BadValue, bare, self.PROGRAM, M, wrong)
            self.assertRaises(BadValue, pace, self.PROGRAM, M, wrong)
            self.assertRaises(BadValue, parted, self.PROGRAM, M, self.PROGRAM, M, wrong)
        for most in (6, 2000):
            self.assertEqual(([], None, None), (bare(self.PROGRAM, M, most), pace(self.PROGRAM, M, most),
                                                parted(self.PROGRAM, M, self.PROGRAM, M, most)))


if __name__ == "__main__":
    unittest.main()
