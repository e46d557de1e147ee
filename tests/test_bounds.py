"""All that the document promises to carry out [0.3] is carried out without trouble."""

import sys
import unittest

from loopyard.alike import bare, pace, parted
from loopyard.endings import fate, is_fate, out_of_reach, sleepers
from loopyard.program import Program
from loopyard.running import Life, run
from loopyard.sessions import Session
from tests.helper import (
    SAYS, Case, asynced, catch, do, let, main, plain, report, said, say, sleep, tell, tell_await, wait,
)


def count_to(most, *steps):
    return ("while", ("less", "@n", most), (let("n", "add", "@n", 1), *steps))


def nested(depth, steps):
    """Steps within so many bodies of all kinds."""
    for at in range(depth):
        steps = (
            (("try", steps, (), (), ()),), (("if", ("it", 1), steps, ()),), (("each", "x", (1,), steps),),
            (("while", ("it", 1), (*steps, ("break",))),), (("with", None, ("timeout", 99), steps),),
            (("try", (("raise", 1),), ((("TypeError",), None, steps),), (), ()),),
            (("try", (), (), (), steps),), (("with", None, ("group",), steps),),
        )[at % 8]
    return steps


class BoundsCase(Case):
    def setUp(self):
        limit = sys.getrecursionlimit()
        self.addCleanup(sys.setrecursionlimit, limit)
        depth, frame = 0, sys._getframe()
        while frame is not None:
            depth, frame = depth + 1, frame.f_back
        # Nothing may hang on recursion deeper than a few hundred calls.
        sys.setrecursionlimit(depth + 300)


class BoundsTest(BoundsCase):
    def test_turns(self):
        told = report(let("n", "it", 0), count_to(1993, sleep(0)), say("@n"))
        self.assertEqual((("value", None), 1999), (told.outcome, told.turns))

    def test_steps_within_one_callback(self):
        told = report(let("n", "it", 0), count_to(20000), say("@n"))
        self.assertEqual([(0, "Task-1", 20000)], told.log)
        told = report(do("soon", "counts"), sleep(0), counts=plain(let("n", "it", 0), count_to(20000), say("@n")))
        self.assertEqual([(0, None, 20000)], told.log)

    def test_things_of_one_kind(self):
        told = report(let("n", "it", 0), count_to(20000, let("f", "future")), say("@f"))
        self.assertEqual([(0, "Task-1", "Future-1")], told.log)
        told = report(let("n", "it", 0), count_to(20000, let("h", "later", "@n", "tell", 1)), say("@h"), tell=SAYS)
        self.assertEqual([(0, "Task-1", "Handle-1")], told.log)

    def test_tasks(self):
        rounds = ("each", "k", tuple(range(40)), (
            let("n", "it", 0), count_to(500, let("c", "call", "co"), do("task", "@c")), sleep(0)))
        told = report(let("N", "it", 0), rounds, sleep(1), say("@N"), co=asynced(let("N", "add", "@N", 1)))
        self.assertEqual([(1, "Task-1", 20000)], told.log)

    def test_handles_that_are_ready_at_once(self):
        told = report(let("F", "future"), let("N", "it", 0), let("n", "it", 0),
                      count_to(500, let("c", "call", "co"), do("task", "@c")), sleep(0), do("set_result", "@F", 1),
                      sleep(0), say("@N"), co=asynced(wait("it", "@F"), let("N", "add", "@N", 1)))
        self.assertEqual([(0, "Task-1", 500)], told.log)

    def test_nested_bodies(self):
        self.assert_said(["deep"], *nested(30, (say("deep"),)))
        self.assert_said(["deep"], *nested(60, (sleep(1), say("deep"))))
        for depth in range(24, 32):
            self.assertEqual(1, len(said(catch(*nested(depth, (let("f", "fault", "Odd"), ("raise", "@f")))))))
        self.assert_place(("main", *(part for _ in range(30) for part in (0, 2)), 0),
                          {"main": ("async", (), self.ifs(30, (("none",),)))})

    def ifs(self, depth, steps):
        for _ in range(depth):
            steps = (("if", ("it", 1), steps, ()),)
        return steps

    def test_nested_calls(self):
        for routine, awaits in ((plain, False), (asynced, True)):
            call = ("call", "down", "@m")
            inner = ("await", "r", call) if awaits else ("let", "r", call)
            down = routine(("if", ("less", "@n", 40), (let("m", "add", "@n", 1), inner, ("return", "@r")),
                            (("return", "bottom"),)), params=("n",))
            ask = tell_await if awaits else tell
            self.assert_said(["bottom"], ask("call", "down", 0), down=down)

    def test_nested_values(self):
        value = 1
        for _ in range(30):
            value = (value,)
        self.assert_said([value], say(value))
        self.assert_said([True], tell("same", value, value))
        self.assert_said([value], let("v", "it", 1), ("each", "k", tuple(range(30)), (let("v", "it", ("@v",)),)),
                         say("@v"))
        rows = said(let("v", "fault", "Odd"), ("each", "k", tuple(range(30)), (let("v", "group_of", "m", ("@v",)),)),
                    tell("split", "@v", "Odd"))
        self.assertIsNone(rows[0][1])

    def test_long_chains(self):
        waits = asynced(wait("it", "@t"), params=("t",))
        told = report(let("c", "sleep", 5), let("t", "task", "@c"), let("n", "it", 0),
                      count_to(450, let("c", "call", "waits", "@t"), let("t", "task", "@c")), sleep(0),
                      tell("cancel", "@t"), waits=waits, turns=1900)
        self.assertEqual([(0, "Task-1", True)], told.log)
        self.assertEqual(("value", None), told.outcome)
        self.assert_said([True], let("t", "future"), let("n", "it", 0), count_to(1000, let("t", "gather", ("@t",))),
                         tell("cancel", "@t"))

    def test_long_lines(self):
        takes = asynced(("with", None, ("it", "@L"), (let("N", "add", "@N", 1),)))
        told = report(let("L", "lock"), let("N", "it", 0), wait("acquire", "@L"), let("n", "it", 0),
                      count_to(490, let("c", "call", "takes"), let("t", "task", "@c")), sleep(0), do("release", "@L"),
                      wait("it", "@t"), say("@N"), takes=takes)
        self.assertEqual([(0, "Task-1", 490)], told.log)

    def test_long_programs(self):
        steps = tuple(let("x", "it", at) for at in range(5000))
        self.assertEqual([(0, "Task-1", 4999)], run(Program({"main": ("async", (), (*steps, say("@x")))}), ("main",)).log)


class EndlessTest(BoundsCase):
    """Fates, sleepers and logs held together, for as many turns and things as the document promises."""

    SPIN = ("while", ("it", 1), (sleep(0),))

    def test_as_many_turns_as_there_can_be(self):
        counts = ("while", ("it", 1), (let("n", "add", "@n", 1), sleep(0)))
        self.assertEqual(("open", 2000), fate(main(let("n", "it", 0), counts), ("main",), 2000))
        for most in (7, 300, 999, 1500, 1998):
            turns = ("if", ("same", "@n", most), (let("n", "it", 0),), ())
            program = main(let("n", "it", 0), ("while", ("it", 1), (let("n", "add", "@n", 1), turns, say("@n"), sleep(1))))
            # Two turns for each tick: the timer, and the task that it wakes.
            expected = ("round", 1, 2 * most) if 2 * most < 2000 else ("open", 2000)
            self.assertEqual(expected, fate(program, ("main",), 2000))
            if 2 * most < 2000:
                self.assertEqual((1, most, most), pace(program, ("main",), 2000))
                self.assertIsNone(parted(program, ("main",), program, ("main",), 2000))
                self.assertTrue(is_fate(program, ("main",), ("round", 2, 2 * most)))

    def test_states_that_grow(self):
        for name, step in (("x", let("x", "add", "@x", ("@f",))), ("X", let("X", "add", "@X", ("@f",)))):
            grows = ("while", ("it", 1), (let("f", "future"), step, sleep(0)))
            self.assertEqual(("open", 2000), fate(main(let(name, "it", ()), grows), ("main",), 2000))

    def test_many_things(self):
        program = main(let("n", "it", 0), let("x", "it", None), count_to(19000, let("f", "future"), do("set_result", "@f", "@x"),
                                                                         let("x", "it", "@f")), self.SPIN)
        self.assertEqual(("round", 1, 1), fate(program, ("main",), 2000))
        life = Life(program, ("main",))
        life.turn()
        self.assertEqual([], out_of_reach(life))
        self.assertEqual(["Future"], [row[2] for row in bare(main(let("f", "future"), say("@f")), ("main",), 9)])

    def test_many_tasks(self):
        many = count_to(499, let("c", "call", "idles"), do("task", "@c"))
        program = main(let("F", "future"), let("n", "it", 0), many, ("while", ("it", 1), (let("n", "add", "@n", 1), sleep(0))),
                       idles=asynced(wait("it", "@F")))
        self.assertEqual(("open", 2000), fate(program, ("main",), 2000))
        program = main(let("F", "future"), let("n", "it", 0), many, self.SPIN, idles=asynced(wait("it", "@F")))
        self.assertEqual(499, len(sleepers(program, ("main",), 2000)))
        program = main(let("n", "it", 0), many, self.SPIN, idles=asynced(self.SPIN))
        self.assertEqual((("round", 2, 1), []), (fate(program, ("main",), 2000), sleepers(program, ("main",), 2000)))

    def test_nested_bodies(self):
        self.assertEqual("round", fate(main(*nested(32, (self.SPIN,))), ("main",), 300)[0])
        self.assertEqual("over", fate(main(*nested(32, (sleep(1),))), ("main",), 300)[0])

    def test_nested_values_and_calls(self):
        value = 1
        for _ in range(30):
            value = (value,)
        program = main(("while", ("it", 1), (let("x", "it", value), say("@x"), sleep(0))))
        self.assertEqual((1, 1, 0), pace(program, ("main",), 9))
        down = asynced(("if", ("less", "@n", 40), (let("m", "add", "@n", 1), ("await", "r", ("call", "down", "@m"))), (self.SPIN,)),
                       params=("n",))
        self.assertEqual(("round", 1, 1), fate(main(wait("call", "down", 0), down=down), ("main",), 9))

    def test_great_numbers(self):
        great = 10**6000
        program = main(let("n", "it", great), ("while", ("it", 1), (let("m", "add", "@n", great), sleep(0))))
        self.assertEqual(("round", 1, 1), fate(program, ("main",), 9))

    def test_long_programs(self):
        steps = tuple(let("x", "it", at) for at in range(5000))
        self.assertEqual(("round", 1, 1), fate(main(*steps, self.SPIN), ("main",), 2000))

    def test_a_session_with_many_turns(self):
        session = Session(main(let("n", "it", 0), count_to(1998, sleep(0)), ("return", "@n")))
        self.assertEqual(1998, session.run_until_complete(("main",)))


class RingTest(Case):
    def test_requests_in_a_ring_end(self):
        # Nothing is promised for tasks that wait for one another in a ring, but a request must not run for ever.
        told = report(let("c", "call", "waits", 1), let("A", "task", "@c"), let("c", "call", "waits", 0),
                      let("B", "task", "@c"), sleep(0), sleep(0), do("cancel", "@A"), turns=20,
                      waits=asynced(("if", ("it", "@n"), (wait("it", "@B"),), (wait("it", "@A"),)), params=("n",)))
        self.assertEqual([], told.log)


if __name__ == "__main__":
    unittest.main()
