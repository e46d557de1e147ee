"""The facts of 12.3, 12.5, 12.6 and 13.3, over programs drawn by lot, held against lives that are done turn by turn."""

import unittest

from loopyard.alike import bare, pace, parted
from loopyard.endings import fate, is_fate, out_of_reach, sleepers
from loopyard.errors import Stuck, TooLong
from loopyard.running import MAIN, Life, run
from loopyard.states import are_in_one_state, state_rows
from tests.randoms import Lot

M = ("main",)
MOST = 60
PROGRAMS = [Lot(number).program() for number in range(120)]
PROGRAMS += [Lot(number, ops).program() for number in range(500, 520) for ops in (
    (("tasks",),), (("time",),), (("name", "@t"),))]


def ended(life):
    """Whether a life has ended: over or stuck."""
    return life.phase == 4 or life.is_stuck()


def lived(program, turns):
    life = Life(program, M)
    for _ in range(turns):
        life.turn()
    return life


def told_by_all_states(program, most):
    """The fate of a life, by holding each state against all those ahead of it."""
    life, seen = Life(program, M), {}
    while True:
        if life.phase == 4:
            return ("over", life.turns)
        if life.is_stuck():
            return ("stuck", life.turns)
        # As text: True and 1 are two things in a state.
        rows = repr(state_rows(life))
        if rows in seen:
            return ("round", seen[rows], life.turns - seen[rows])
        seen[rows] = life.turns
        if life.turns == most:
            return ("open", most)
        life.turn()


def glance(life):
    """Some of what a life shows from outside: in a round it comes again in each period."""
    loop = life.loop
    return (life.phase, len(loop.ready), [row[0] - loop.now for row in loop.heap], loop.dropped_timers, list(loop.readers),
            [task.waits is None for task in loop.undone.values()])


FATES = [fate(program, M, MOST) for program in PROGRAMS]


class FactsTest(unittest.TestCase):
    def each(self, *words):
        for number, (program, paper) in enumerate(zip(PROGRAMS, FATES)):
            if paper[0] in words:
                with self.subTest(number=number, paper=paper):
                    yield program, paper

    def test_there_are_fates_of_all_kinds(self):
        for word, least in (("over", 10), ("stuck", 20), ("round", 40), ("open", 5)):
            self.assertGreaterEqual(len(list(self.each(word))), least, word)
        self.assertGreaterEqual(len([paper for paper in FATES if paper[0] == "round" and paper[2] > 3]), 10)

    def test_fates_are_told_by_all_states(self):
        for program, paper in self.each("over", "stuck", "round", "open"):
            self.assertEqual(told_by_all_states(program, MOST), paper)
            self.assertIs(paper[0] != "open", is_fate(program, M, paper))

    def test_ends_are_those_of_the_run(self):
        for program, paper in self.each("over"):
            life = lived(program, paper[1] - 1)
            self.assertIs(False, life.turn())
            self.assertIn(run(program, M).outcome[0], ("value", "fault"))
            self.assertEqual(paper[1], run(program, M).turns)
        for program, paper in self.each("stuck"):
            life = lived(program, paper[1])
            self.assertRaises(Stuck, life.turn)
            self.assertEqual((("stuck",), paper[1]), (run(program, M).outcome, run(program, M).turns))
        for program, paper in self.each("round", "open"):
            self.assertEqual(("busy",), run(program, M, turns=MOST).outcome)

    def test_a_round_comes_again_for_ever(self):
        for program, (_, first, period) in self.each("round"):
            one, other = lived(program, first), lived(program, first + period)
            for _ in range(2 * period + 3):
                self.assertTrue(are_in_one_state(one, other))
                self.assertEqual(glance(one), glance(other))
                said = [(len(life.log), len(life.notes), life.loop.now) for life in (one, other)]
                one.turn()
                other.turn()
                more = [(len(life.log), len(life.notes), life.loop.now) for life in (one, other)]
                self.assertEqual(*[tuple(b - a for a, b in zip(*both)) for both in zip(said, more)])

    def test_no_turn_ahead_of_it_comes_again(self):
        for program, (_, first, period) in self.each("round"):
            self.assertFalse(is_fate(program, M, ("round", first - 1, period)))
            for less in range(1, period):
                self.assertFalse(is_fate(program, M, ("round", first, less)))
            for more in range(3):
                self.assertTrue(is_fate(program, M, ("round", first + more, 2 * period)))

    def test_sleepers_stand_and_all_others_do_not(self):
        for program, (_, first, period) in self.each("round"):
            life = lived(program, first)
            tasks = list(life.loop.undone.values())
            waits = [task.waits for task in tasks]
            # Who does not stand for ever stands for less periods than there are tasks.
            for _ in range(period * (len(tasks) + 1)):
                life.turn()
            names = [task.name for task, future in zip(tasks, waits)
                     if future is not None and task.serial in life.loop.undone and task.waits is future]
            self.assertEqual(names, sleepers(program, M, MOST))

    def test_sleepers_of_lives_that_end(self):
        for program, _ in self.each("over"):
            self.assertEqual([], sleepers(program, M, MOST))
        for program, paper in self.each("stuck"):
            self.assertEqual(lived(program, paper[1]).pending(), sleepers(program, M, MOST))
        for program, _ in self.each("open"):
            self.assertRaises(TooLong, sleepers, program, M, MOST)

    def test_what_is_out_of_reach_does_no_step(self):
        found = 0
        for program, _ in self.each("over", "stuck", "round", "open"):
            life, lost = Life(program, M), {}
            while life.turns < 40 and not ended(life) and life.phase == MAIN and life.main.state == 0:
                names = out_of_reach(life)
                pending = list(life.loop.undone.values())
                self.assertEqual(names, [task.name for task in pending if task.name in names])
                for task, future in lost.items():
                    self.assertIn(task.serial, life.loop.undone)
                    self.assertIs(future, task.waits)
                    self.assertIn(task.name, names)
                lost.update((task, task.waits) for task in pending if task.name in names)
                life.turn()
            found += len(lost)
        self.assertGreaterEqual(found, 5)

    def test_pace(self):
        for program, (_, first, period) in self.each("round"):
            one, other = lived(program, first), lived(program, first + period)
            entries, ticks = len(other.log) - len(one.log), other.loop.now - one.loop.now
            self.assertEqual((len(one.log), entries, ticks), pace(program, M, MOST))
            rows = bare(program, M, first + 4 * period)
            self.assertEqual(len(one.log) + 4 * entries, len(rows))
            for at in range(len(one.log), len(rows) - entries):
                clock, *rest = rows[at]
                self.assertEqual((clock + ticks, *rest), rows[at + entries])
        for program, _ in self.each("over", "stuck"):
            self.assertIsNone(pace(program, M, MOST))

    def test_lives_part_where_their_logs_do(self):
        known = [(program, paper) for program, paper in self.each("over", "stuck", "round")]
        logs = [bare(program, M, 400) for program, _ in known]
        for at, (program, paper) in enumerate(known):
            self.assertIsNone(parted(program, M, program, M, MOST))
            other = (at + 1) % len(known)
            rows, others = logs[at], logs[other]
            index = next((k for k, (one, two) in enumerate(zip(rows, others)) if one != two), min(len(rows), len(others)))
            expected = None if index == len(rows) == len(others) else index
            self.assertEqual(expected, parted(program, M, known[other][0], M, MOST))


if __name__ == "__main__":
    unittest.main()
