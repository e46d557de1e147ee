"""The states of lives: what is in them and what is not [12.2]."""

import unittest

from loopyard.program import Program
from loopyard.running import Life
from loopyard.states import are_in_one_state, is_in_state, state_rows
from loopyard.texts import value_text
from loopyard.values import is_same
from tests.helper import Case, asynced, catch, do, let, plain, say, sleep, wait

IDLE = (("while", ("it", 1), (sleep(0),)),)
NEVER = asynced(let("f", "future"), wait("it", "@f"))
PROBE = plain(do("time"))
SEES = plain(("return", "@V"))


def life_of(program, n, turns):
    life = Life(program, ("main", n))
    while life.turns < turns and not life.is_stuck():
        life.turn()
    return life


def pair(one, other, /, then=IDLE, turns=4, ahead=(), outside=(), **routines):
    """Two lives of one program: ahead of what they have in common, one takes these steps, and the other one those."""
    steps = (*ahead, ("if", ("same", "@n", 1), tuple(one), tuple(other)), let("n", "it", 0), *then)
    program = Program({"main": ("async", ("n",), steps), **routines}, outside=outside)
    return life_of(program, 1, turns), life_of(program, 2, turns)


class StateCase(Case):
    def check(self, expected, pairs, **more):
        for one, other in pairs:
            lives = pair(one, other, **more)
            where = f"{one} and {other}"
            self.assertEqual(expected, are_in_one_state(*lives), where)
            self.assertEqual(expected, is_in_state(lives[1], state_rows(lives[0])), where)
            self.assertEqual(expected, state_rows(lives[0]) == state_rows(lives[1]), where)
            for life in lives:
                self.assertTrue(are_in_one_state(life, life))

    def assert_same(self, *pairs, **more):
        self.check(True, pairs, **more)

    def assert_unlike(self, *pairs, **more):
        self.check(False, pairs, **more)


def lets(*calls):
    return [(let("x", *call),) for call in calls]


def each_two(rows):
    """Each of the rows with the one behind it."""
    return list(zip(rows, rows[1:]))


class VariablesTest(StateCase):
    def test_values(self):
        calls = [("it", value) for value in (None, 0, False, True, 1, "1", "", (), ((),), (1,), (True,), (1, 2), ((1, 2),),
                                             ((1,), 2), "none", "true", -1, 255, "ff", 10**40)]
        for name in ("x", "X"):
            rows = [(let(name, *call),) for call in calls]
            self.assert_unlike(*[(one, other) for at, one in enumerate(rows) for other in rows[:at]])
            self.assert_same(*[(row, row) for row in rows])

    def test_names(self):
        self.assert_unlike(((let("x", "it", 1),), ()), ((let("x", "it", 1),), (let("y", "it", 1),)),
                           ((let("x", "it", 1),), (let("X", "it", 1),)))

    def test_the_order_in_which_variables_came(self):
        self.assert_same(((let("x", "it", 1), let("y", "it", 2)), (let("y", "it", 2), let("x", "it", 1))),
                         ((let("X", "it", 1), let("Y", "it", 2)), (let("Y", "it", 2), let("X", "it", 1))))

    def test_things_are_the_same_or_not(self):
        one = (let("x", "future"), let("y", "it", "@x"))
        other = (let("x", "future"), let("y", "future"))
        swapped = (let("y", "future"), let("x", "future"))
        self.assert_unlike((one, other))
        self.assert_same((other, swapped))
        one = (let("x", "fault", "Odd"), let("y", "it", "@x"))
        other = (let("x", "fault", "Odd"), let("y", "fault", "Odd"))
        self.assert_unlike((one, other))

    def test_kinds_of_things(self):
        rows = lets(("future",), ("lock",), ("event",), ("condition",), ("semaphore",), ("bounded",), ("barrier", 1),
                    ("queue",), ("lifo_queue",), ("priority_queue",), ("group",), ("timeout", None), ("as_completed", ()),
                    ("fault", "Odd"), ("sleep", 1), ("call", "never"), ("soon", "sees"), ("gather", ()))
        self.assert_unlike(*[(one, other) for at, one in enumerate(rows) for other in rows[:at] if {one, other} != {
            rows[0], rows[-1]}], never=NEVER, sees=SEES)

    def test_what_nobody_leads_to(self):
        self.assert_same(((let("x", "future"), do("cancel", "@x"), let("x", "it", 1)), (let("x", "it", 1),)),
                         ((do("lock"), do("sleep", 3), do("call", "never")), ()), never=NEVER)


class FaultsTest(StateCase):
    def test_faults(self):
        self.assert_unlike(*each_two(lets(("fault", "Odd"), ("fault", "Odd", 1), ("fault", "Odd", True), ("fault", "Even", 1),
                                          ("fault", "Odd", 1, 2), ("fault", "Odd", (1, 2)))))

    def test_groups(self):
        ahead = (let("a", "fault", "Odd"), let("b", "fault", "Odd"))
        self.assert_unlike(*each_two(lets(("group_of", "m", ("@a",)), ("group_of", "m", ("@b",)), ("group_of", "m", ("@a", "@b")),
                                          ("group_of", "n", ("@a", "@b")))), ahead=ahead)

    def test_the_faults_that_are_handled(self):
        handling = (("try", (("raise", "@x"),), ((("BaseException",), None, (let("x", "it", 0), *IDLE)),), (), ()),)
        rows = lets(("fault", "Odd", 1), ("fault", "Odd", 2), ("fault", "Even", 2))
        self.assert_unlike(*each_two(rows), then=handling)
        behind = (("try", (("raise", "@x"),), (), (), (let("x", "it", 0), *IDLE)),)
        self.assert_unlike(*each_two(rows), then=behind)


class FuturesTest(StateCase):
    def test_outcomes(self):
        rows = [(), (do("set_result", "@x", 1),), (do("set_result", "@x", 2),), (do("set_result", "@x", None),),
                (do("cancel", "@x"),), (do("cancel", "@x", "m"),), (do("cancel", "@x", "n"),),
                (let("e", "fault", "Odd"), do("set_exception", "@x", "@e"), let("e", "it", 0)),
                (let("e", "fault", "Odd", 1), do("set_exception", "@x", "@e"), let("e", "it", 0)),
                (let("e", "fault", "CancelledError"), do("set_exception", "@x", "@e"), let("e", "it", 0))]
        rows = [(*row, let("e", "it", 0)) for row in rows]
        self.assert_unlike(*[(one, other) for at, one in enumerate(rows) for other in rows[:at]], ahead=(let("x", "future"),))

    def test_whether_a_fault_was_told(self):
        ahead = (let("x", "future"), let("e", "fault", "Odd"), do("set_exception", "@x", "@e"), let("y", "it", 0))
        self.assert_same(((), (let("y", "exception", "@x"), let("y", "it", 0))), ahead=ahead)

    def test_callbacks(self):
        lay = [do("on_done", "@x", word) for word in ("one", "two")]
        rows = [(), (lay[0],), (lay[1],), (lay[0], lay[0]), (lay[0], lay[1]), (lay[1], lay[0])]
        routines = dict(one=plain(params=("v",)), two=plain(params=("v",)))
        self.assert_unlike(*[(one, other) for at, one in enumerate(rows) for other in rows[:at]], ahead=(let("x", "future"),),
                           **routines)
        self.assert_same((lay[:1], (lay[1], lay[0], do("off_done", "@x", "two"))), ahead=(let("x", "future"),), **routines)

    def test_the_fault_that_is_kept_for_the_first_who_asks(self):
        ends = asynced(let("f", "fault", "CancelledError", "own"), ("raise", "@f"))
        ahead = (let("c", "call", "ends"), let("t", "task", "@c"), sleep(0))
        ask = (catch(do("exception", "@t"), then=()), let("e", "it", 0))
        self.assert_unlike(((let("e", "it", 0),), ask), ahead=ahead, ends=ends)
        self.assert_same((ask, ask + ask), ahead=ahead, ends=ends)

    def test_shields(self):
        shield = let("y", "shield", "@x")
        self.assert_unlike(((let("y", "future"),), (shield,)), ((shield, let("z", "shield", "@x")), (shield, let("z", "it", "@y"))),
                           ahead=(let("x", "future"),))
        self.assert_unlike(((shield, let("z", "shield", "@x")), (let("z", "shield", "@x"), shield)), ahead=(let("x", "future"),))

    def test_gathering_futures(self):
        ahead = (let("x", "future"), let("y", "future"))
        rows = [(let("g", "gather", things, as_values),) for things, as_values in (
            (("@x",), False), (("@x",), True), (("@y",), True), (("@x", "@y"), True), (("@y", "@x"), True), (("@x", "@x"), True))]
        self.assert_unlike(*[(one, other) for at, one in enumerate(rows) for other in rows[:at]], ahead=ahead)
        ahead = (*ahead, let("g", "gather", ("@x", "@y"), True))
        ends = (do("set_result", "@x", 1), do("set_result", "@y", 2))
        self.assert_unlike((ends[:1], ends[1:]), (ends, ends[:1]), ahead=ahead)
        lay = do("on_done", "@g", "tell")
        self.assert_unlike(((), (lay,)), ((lay,), (lay, lay)), ahead=ahead, tell=plain(params=("v",)))
        # Whether it has been asked to cancel: a child that is done said no, one that is open said yes.
        asked = (do("cancel", "@g"),)
        self.assert_unlike((asked, (do("cancel", "@x"), do("cancel", "@y"))), ahead=ahead, turns=1)


class HandlesTest(StateCase):
    def test_what_is_ready(self):
        say_one = do("soon", "says", 1)
        rows = [(), (say_one,), (do("soon", "says", 2),), (do("soon", "says", True),), (do("soon", "other", 1),),
                (say_one, say_one), (do("soon", "says", 1, 2),), (do("soon", "says"),)]
        routines = dict(says=plain(params=("v",)), other=plain(params=("v",)))
        self.assert_unlike(*[(one, other) for at, one in enumerate(rows) for other in rows[:at]], turns=1, **routines)
        # Behind the turn in which they were carried out nobody has them.
        self.assert_same(*[(rows[0], row) for row in rows], turns=2, **routines)

    def test_the_order_of_what_is_ready(self):
        one, other = do("soon", "says", 1), do("soon", "says", 2)
        self.assert_unlike(((one, other), (other, one)), turns=1, says=plain(params=("v",)))

    def test_handles_in_variables(self):
        rows = lets(("soon", "says", 1), ("soon", "says", 2), ("soon", "other", 2))
        routines = dict(says=plain(params=("v",)), other=plain(params=("v",)))
        for turns in (1, 2, 5):
            self.assert_unlike(*each_two(rows), turns=turns, **routines)
            self.assert_unlike((rows[0], (*rows[0], do("cancel", "@x"))), turns=turns, **routines)
            self.assert_same((rows[0], rows[0]), turns=turns, **routines)

    def test_a_timer_that_came_is_like_any_handle(self):
        made = [(let("x", "later", 0, "says"),), (let("x", "soon", "says"),)]
        self.assert_unlike(made, turns=1, says=plain())
        self.assert_same(made, turns=3, says=plain())
        self.assert_unlike(made, turns=3, says=plain(do("when", 1)))

    def test_a_callback_that_is_handed_its_future(self):
        # It is the same callback with the same argument, whether the future or the program brought it.
        ahead = (let("x", "future"), do("set_result", "@x", 1))
        self.assert_same(((do("on_done", "@x", "says"),), (do("soon", "says", "@x"),)), ahead=ahead, turns=1,
                         says=plain(params=("v",)))

    def test_timers(self):
        rows = [(), (do("later", 5, "says", 1),), (do("later", 6, "says", 1),), (do("later", 5, "says", 2),),
                (do("later", 5, "says", 1), do("later", 5, "says", 1))]
        self.assert_unlike(*[(one, other) for at, one in enumerate(rows) for other in rows[:at]], says=plain(params=("v",)))

    def test_cancelled_timers(self):
        made = (let("x", "later", 5, "says"), do("later", 4, "says"))
        end = let("x", "it", 0)
        self.assert_unlike(((*made, do("cancel", "@x"), end), (*made, end)), ((*made, do("cancel", "@x"), end), (made[1], end)),
                           says=plain())
        # One at the top is popped by the next turn.
        self.assert_same(((made[0], do("cancel", "@x"), end), (end,)), says=plain())
        self.assert_unlike(((made[0], do("cancel", "@x"), end), (end,)), says=plain(), turns=1)

    def test_times_count_less_the_clock(self):
        self.assert_same(((do("spend", 4), do("later", 5, "says")), (do("later", 5, "says"),)), says=plain())
        self.assert_unlike(((do("later", 5, "says"), do("spend", 2)), (do("later", 5, "says"),)), says=plain())
        self.assert_same(((do("later", 5, "says"), do("spend", 2)), (do("later", 3, "says"),)), says=plain())

    def test_timers_as_they_stand_in_the_heap(self):
        equal = [do("later", 3, "says", at) for at in (1, 2)]
        self.assert_unlike((equal, equal[::-1]), says=plain(params=("v",)))
        # The same timers may stand otherwise, where they came otherwise: 2 and 9 below 1.
        self.assert_unlike(([do("later", at, "says", at) for at in (1, 2, 9)], [do("later", at, "says", at) for at in (1, 9, 2)]),
                           says=plain(params=("v",)))
        self.assert_same(([do("later", at, "says", at) for at in (1, 2)], [do("later", at, "says", at) for at in (2, 1)]),
                         says=plain(params=("v",)))

    def test_the_count_of_cancelled_timers(self):
        # Both are popped when they are due; the one that was cancelled below the other leaves its count.
        one = (let("x", "later", 2, "says"), do("later", 1, "says"), do("cancel", "@x"), do("spend", 3))
        other = (let("x", "later", 2, "says"), do("later", 1, "says"), do("spend", 3))
        self.assert_unlike(((*one, let("x", "it", 0)), (*other, let("x", "it", 0))), says=plain())


class LoopTest(StateCase):
    def test_the_clock(self):
        pairs = [((do("spend", 4),), (do("spend", 2),)), ((), (sleep(0), do("spend", 1)))]
        self.assert_same(pairs[0])
        for op in ("time", "when", "at", "timeout_at", "reschedule"):
            args = {"time": (), "when": (1,), "at": (1, "sees"), "timeout_at": (1,), "reschedule": (1, 2)}[op]
            self.assert_unlike(pairs[0], probe=plain(do(op, *args)), sees=SEES)
            self.assert_unlike(pairs[0], probe=plain(("try", (), (), (), (("while", (op, *args), ()),))), sees=SEES)
        for other in (("later", 1, "sees"), ("sleep", 1), ("timeout", 3), ("wait_for", 1, 2), ("name", 1), ("spend", 1)):
            self.assert_same(pairs[0], probe=plain(do(*other)), sees=SEES)

    def test_names(self):
        made = [(let("c", "call", "never"), let("x", "task", "@c", name), let("c", "it", 0)) for name in ("a", "b", None)]
        self.assert_same((made[0], made[1]), (made[0], made[2]), never=NEVER)
        self.assert_unlike((made[0], made[1]), (made[0], made[2]), never=NEVER, probe=plain(do("name", 1)))
        # The counter of names, too: a task was made that nobody has any more.
        gone = (let("c", "sleep", 0), do("task", "@c"), let("c", "it", 0), sleep(0))
        own = (let("c", "sleep", 0), do("task", "@c", "own"), let("c", "it", 0), sleep(0))
        self.assert_same((gone, own))
        self.assert_unlike((gone, own), probe=plain(do("name", 1)))

    def test_log_notes_and_numbers(self):
        show = (let("x", "future"), say("@x"))
        self.assert_same(((say(1),), ()), (show, show[:1]), ((do("soon", "fails"), sleep(0)), (do("soon", "works"), sleep(0))),
                         fails=plain(("raise", 1)), works=plain())

    def test_the_number_of_turns(self):
        self.assert_same(((sleep(0), sleep(0)), ()), ((sleep(0),), ()))

    def test_the_handler(self):
        rows = [(do("handler", word),) for word in (None, "one", "two")]
        routines = {word: plain(params=("m", "f", "w")) for word in ("one", "two")}
        self.assert_unlike(*each_two(rows), **routines)
        self.assert_same((rows[0], ()), (rows[1], (*rows[2], *rows[1])), **routines)

    def test_sources(self):
        rows = [(), (do("reader", "s", "one"),), (do("reader", "t", "one"),), (do("reader", "s", "two"),),
                (do("reader", "s", "one"), do("reader", "t", "one")), (do("reader", "t", "one"), do("reader", "s", "one")),
                (do("reader", "s", "one", 1),)]
        routines = dict(one=plain(), two=plain())
        self.assert_unlike(*[(one, other) for at, one in enumerate(rows) for other in rows[:at]], **routines)
        self.assert_same((rows[4], (*rows[5], do("unread", "t"), rows[4][1])), (rows[1], (*rows[3], *rows[1])), **routines)

    def test_what_is_still_to_come(self):
        read = let("x", "read", "s")
        forget = let("x", "it", 0)
        outside = ((0, "s", 1), (0, "s", 2), (9, "t", 1))
        self.assert_unlike(((forget,), (read, forget)), ((read, forget), (read, read, forget)), ((), (do("spend", 1),)),
                           outside=outside)
        self.assert_same(((do("spend", 20),), (do("spend", 30),)), outside=outside)
        self.assert_unlike(((do("spend", 1),), ()), outside=((2, "t", 1),))
        self.assert_same(((do("spend", 2),), (do("spend", 3),)), outside=((2, "t", 1),))

    def test_pending_tasks(self):
        one = (let("c", "call", "never"), do("task", "@c"))
        other = (let("c", "call", "other"), do("task", "@c"))
        end = (let("c", "it", 0),)
        rows = [(*row, *end) for row in ((), one, other, (*one, *other), (*other, *one), (*one, *one))]
        routines = dict(never=NEVER, other=asynced(let("f", "future"), wait("it", "@f")))
        self.assert_unlike(*[(one, other) for at, one in enumerate(rows) for other in rows[:at]], **routines)
        self.assert_same((rows[0], (let("c", "sleep", 0), do("task", "@c"), *end)), **routines)


class TasksTest(StateCase):
    AHEAD = (let("F", "future"), let("G", "future"), let("c", "call", "w"), let("t", "task", "@c"), sleep(0))
    WAITS = asynced(catch(wait("it", "@F"), then=()), catch(wait("it", "@G"), then=()))

    def test_the_future_for_which_it_waits(self):
        self.assert_unlike(((let("G", "it", "@F"),), (let("F", "it", "@G"),)), ahead=self.AHEAD, w=self.WAITS, turns=2)
        self.assert_unlike(((do("set_result", "@F", 1),), ()), ahead=self.AHEAD, w=self.WAITS)

    def test_its_count(self):
        loop = (("while", ("it", 1), (catch(sleep(0), then=()),)),)
        ahead = (let("c", "call", "w"), let("t", "task", "@c"), sleep(0))
        routines = dict(w=asynced(*loop))
        self.assert_unlike(((), (do("cancel", "@t"),)), ((do("cancel", "@t"),), (do("cancel", "@t"), do("cancel", "@t"))),
                           ahead=ahead, turns=6, **routines)
        self.assert_same(((), (do("cancel", "@t"), do("uncancel", "@t"))), ahead=ahead, turns=6, **routines)

    def test_whether_a_request_is_to_be_thrown(self):
        me = (let("t", "current"),)
        self.assert_unlike(((do("uncancel", "@t"), do("cancel", "@t"), do("uncancel", "@t")), (do("cancel", "@t"),)),
                           ahead=me, turns=1)
        one = (do("cancel", "@t"), do("cancel", "@t"), do("uncancel", "@t"))
        other = (do("cancel", "@t"), do("uncancel", "@t"), do("cancel", "@t"))
        self.assert_same((one, other), ahead=me, turns=1)

    def test_a_request_that_was_delivered(self):
        # Both count one request; one of them is still to be thrown.
        me = (let("t", "current"), let("e", "it", 0))
        steps = (*me, ("if", ("same", "@n", 1), (do("cancel", "@t"),), (catch(do("cancel", "@t"), sleep(0), then=()), let("e", "it", 0))),
                 let("n", "it", 0), ("while", ("it", 1), (catch(sleep(0), then=()), let("e", "it", 0))))
        program = Program({"main": ("async", ("n",), steps)})
        self.assertFalse(are_in_one_state(life_of(program, 1, 1), life_of(program, 2, 2)))
        self.assertTrue(are_in_one_state(life_of(program, 1, 2), life_of(program, 2, 2)))

    def test_the_message(self):
        me = (let("t", "current"),)
        self.assert_unlike(*[((do("cancel", "@t", one),), (do("cancel", "@t", other),)) for one, other in (("m", "n"), ("m", None))],
                           ahead=me, turns=1)

    def test_coroutines(self):
        fresh = (let("c", "call", "w", 1),)
        others = [(let("c", "call", "w", 2),), (let("c", "call", "v", 1),), (let("c", "sleep", 1),), (*fresh, do("close", "@c"))]
        routines = {word: asynced(sleep(1), params=("n",)) for word in ("w", "v")}
        self.assert_unlike(*[(fresh, other) for other in others], **routines)
        self.assert_same((others[3], (*others[1], do("close", "@c"))), (others[3], (*fresh, do("task", "@c"), sleep(9))),
                         turns=9, **routines)

    def test_whether_a_coroutine_is_awaited_or_was(self):
        # Both were awaited, but one of them still is: the task that awaits it was made of another one.
        ahead = (let("C", "call", "w"), let("D", "call", "v"), wait("it", "@D"), let("x", "call", "awaits"), do("task", "@x"),
                 let("x", "it", 0), sleep(0))
        swap = (let("x", "it", "@C"), let("C", "it", "@D"), let("D", "it", "@x"), let("x", "it", 0))
        self.assert_unlike(((), swap), ahead=ahead, w=NEVER, v=asynced(), awaits=asynced(wait("it", "@C")))

    def test_a_done_task(self):
        ahead = (let("c", "call", "w", 1), let("x", "task", "@c"), let("d", "call", "w", 2), let("y", "task", "@d"), sleep(0))
        swap = (let("z", "it", "@x"), let("x", "it", "@y"), let("y", "it", "@z"))
        self.assert_unlike(((let("z", "it", "@x"),), swap), ahead=ahead, w=asynced(("return", "@n"), params=("n",)))


class CarriedOutTest(StateCase):
    """What an activation carries out, down to the await in which it stands."""

    def test_the_routine(self):
        rows = [(let("c", "call", word), do("task", "@c"), let("c", "it", 0)) for word in ("one", "two")]
        self.assert_unlike(rows, one=NEVER, two=NEVER)

    def test_the_place_in_a_body(self):
        waits = (sleep(0), sleep(0), sleep(0))
        for turns in (1, 2):
            program = Program({"main": ("async", (), (("while", ("it", 1), waits),))})
            lives = [Life(program, ("main",)) for _ in range(2)]
            for life, more in zip(lives, (turns, turns + 1)):
                for _ in range(more):
                    life.turn()
            self.assertFalse(are_in_one_state(*lives))
            for _ in range(2):
                lives[0].turn()
            lives[0].turn()
            lives[0].turn()
            self.assertTrue(are_in_one_state(*lives))

    def test_bodies_are_values_wherever_they_stand(self):
        branches = [(("if", ("same", "@n", 1), one, other),) for one, other in (
            (IDLE, IDLE), (IDLE, (sleep(0), *IDLE)), (IDLE, (("while", ("it", True), (sleep(0),)),)),
            (IDLE, (("while", ("it", 1), (sleep(False),)),)))]
        for then, expected in zip(branches, (True, False, False, False)):
            program = Program({"main": ("async", ("m",), (let("n", "it", "@m"), let("m", "it", 0), *self.forget(then)))})
            lives = [life_of(program, n, 5) for n in (1, 2)]
            self.assertEqual(expected, are_in_one_state(*lives))

    def forget(self, then):
        """The branches, ahead of which the variable that tells them apart is forgotten."""
        word, call, one, other = then[0]
        return ((word, call, (let("n", "it", 0), *one), (let("n", "it", 0), *other)),)

    def test_what_an_each_goes_through(self):
        then = (("each", "k", "@x", (let("k", "it", 0), let("x", "it", 0), *IDLE)),)
        self.assert_unlike(*each_two(lets(("it", (1,)), ("it", (2,)), ("it", (1, 2)), ("it", (True, 2)), ("it", (1, True)))), then=then)

    def test_how_many_parts_are_begun(self):
        then = (("each", "k", (1, 1), (sleep(0), sleep(0))), *IDLE)
        program = Program({"main": ("async", ("n",), then)})
        one, other = life_of(program, 1, 1), life_of(program, 1, 3)
        self.assertFalse(are_in_one_state(one, other))

    def test_how_a_body_ended_ahead_of_the_last_one(self):
        last = (let("v", "it", 0), *IDLE)
        ends = [(), (("return", 1),), (("return", 2),), (("break",),), (let("v", "fault", "Odd"), ("raise", "@v"))]
        for one in range(len(ends)):
            for other in range(one):
                steps = (self.both(ends[one], ends[other], last),)
                program = Program({"main": ("async", ("n",), steps)})
                self.assertFalse(are_in_one_state(life_of(program, 1, 3), life_of(program, 2, 3)), (one, other))

    def both(self, one, other, last):
        inner = ("if", ("same", "@n", 1), (let("n", "it", 0), *one), (let("n", "it", 0), *other))
        return ("while", ("it", 1), (("try", (let("v", "it", 0), inner), (), (), last),))

    def test_which_body_of_a_try(self):
        # All bodies are the same: the first, the second or the last one goes on without end.
        same = (("if", ("same", "@n", 0), IDLE, (let("n", "add", "@n", -1),)),)
        program = Program({"main": ("async", ("n",), (("try", same, (), same, same),))})
        lives = [life_of(program, n, 3) for n in range(3)]
        for one, other in ((0, 1), (0, 2), (1, 2)):
            self.assertFalse(are_in_one_state(lives[one], lives[other]))

    def test_with(self):
        inner = (let("x", "it", 0), *IDLE)
        then = (("with", None, ("it", "@x"), inner),)
        rows = lets(("lock",), ("condition",), ("semaphore",), ("bounded",), ("timeout", None), ("group",))
        self.assert_unlike(*each_two(rows), then=then, turns=5)

    def test_how_the_body_of_a_with_ended(self):
        # The group waits for a task at its end; behind it the value is returned, or the block goes on.
        ends = [(), (("return", 1),), (("return", 2),)]
        for one, other in ((0, 1), (1, 2)):
            branch = ("if", ("same", "@n", 1), (let("n", "it", 0), *ends[one]), (let("n", "it", 0), *ends[other]))
            steps = (("with", None, ("group",), (let("g", "it", 0), let("c", "call", "w"), ("with", "g", ("group",), (
                do("start", "@g", "@c"), branch)))),)
            program = Program({"main": ("async", ("n",), steps), "w": NEVER})
            self.assertFalse(are_in_one_state(life_of(program, 1, 4), life_of(program, 2, 4)), (one, other))


class WaitsTest(StateCase):
    """What the loop's own coroutines wait for and hold back."""

    def waits(self, one, other, ahead=(), turns=4, expected=False, then=(), **routines):
        """Two lives in which a task was made of what one of these calls gives."""
        rows = [(let("c", *call), do("task", "@c"), let("c", "it", 0), *then) for call in (one, other)]
        self.check(expected, [rows], ahead=ahead, turns=turns, **routines)

    def test_sleep(self):
        self.waits(("sleep", 5), ("sleep", 6))
        self.waits(("sleep", 5, 1), ("sleep", 5, 2))
        # How long it was to sleep does not matter, but how long it still will.
        rows = [(let("c", "sleep", delay), do("task", "@c"), let("c", "it", 0), sleep(0), do("spend", delay - 3)) for delay in (5, 7)]
        self.assert_same(rows)
        pauses = [(let("c", "sleep", delay, 1), do("task", "@c"), let("c", "it", 0)) for delay in (0, -1)]
        self.assert_unlike(pauses, turns=1)
        self.assert_same(pauses, turns=2)
        self.assert_same(pauses, turns=3)
        self.assert_unlike(*each_two([(let("c", "sleep", 0, at), do("task", "@c"), let("c", "it", 0)) for at in (1, 2)]), turns=2)

    def test_wait(self):
        ahead = (let("x", "future"), let("y", "future"))
        for one, other in ((("@x",), ("@y",)), (("@x", "@y"), ("@y", "@x")), (("@x",), ("@x", "@y"))):
            self.waits(("wait", one), ("wait", other), ahead=ahead)
        self.waits(("wait", ("@x", "@x")), ("wait", ("@x",)), ahead=ahead, expected=True)
        self.waits(("wait", ("@x",), 9), ("wait", ("@x",)), ahead=ahead)
        self.waits(("wait", ("@x",), 9), ("wait", ("@x",), 8), ahead=ahead)
        untils = ("ALL_COMPLETED", "FIRST_COMPLETED", "FIRST_EXCEPTION")
        for one, other in each_two(untils):
            self.waits(("wait", ("@x",), None, one), ("wait", ("@x",), None, other), ahead=ahead)
        self.waits(("wait", ("@x", "@y")), ("wait", ("@y", "@x")), ahead=ahead, then=(sleep(0), do("set_result", "@x", 1)))

    def test_wait_for(self):
        ahead = (let("x", "future"),)
        self.waits(("wait_for", "@x", 9), ("wait_for", "@x", 8), ahead=ahead)
        self.waits(("wait_for", "@x", 9), ("wait_for", "@x", None), ahead=ahead)
        drags = asynced(catch(sleep(99), then=()), sleep(99))
        ahead = (let("c", "call", "drags"), let("x", "task", "@c"), let("c", "call", "drags"), let("y", "task", "@c"), sleep(0))
        self.waits(("wait_for", "@x", 0), ("wait_for", "@y", 0), ahead=ahead, drags=drags)
        self.waits(("wait_for", "@x", 0), ("wait_for", "@x", -1), ahead=ahead, drags=drags, expected=True, turns=5)

    def test_calls_that_were_not_awaited(self):
        ahead = tuple(let(name, *call) for name, call in (
            ("x", ("future",)), ("y", ("future",)), ("l", ("lock",)), ("m", ("lock",)), ("e", ("event",)), ("k", ("event",)),
            ("q", ("queue",)), ("p", ("queue",)), ("b", ("barrier", 2)), ("a", ("barrier", 2)), ("g", ("condition",)),
            ("h", ("condition",)), ("s", ("semaphore",)), ("t", ("semaphore",))))
        for one, other in (
                (("sleep", 1), ("sleep", 2)), (("sleep", 1, 1), ("sleep", 1, 2)), (("wait", ("@x",)), ("wait", ("@y",))),
                (("wait", ("@x",), 1), ("wait", ("@x",), 2)), (("wait", ("@x", "@x")), ("wait", ("@x",))),
                (("wait", ("@x",), 1, "FIRST_COMPLETED"), ("wait", ("@x",), 1)), (("wait_for", "@x", 1), ("wait_for", "@y", 1)),
                (("wait_for", "@x", 1), ("wait_for", "@x", 2)), (("acquire", "@l"), ("acquire", "@m")),
                (("acquire", "@s"), ("acquire", "@t")), (("wait_on", "@e"), ("wait_on", "@k")), (("wait_on", "@g"), ("wait_on", "@h")),
                (("wait_on", "@b"), ("wait_on", "@a")), (("wait_on", "@b"), ("wait_on", "@e")), (("get", "@q"), ("get", "@p")),
                (("put", "@q", 1), ("put", "@p", 1)), (("put", "@q", 1), ("put", "@q", 2)), (("join", "@q"), ("join", "@p")),
                (("get", "@q"), ("join", "@q")), (("reset", "@b"), ("abort", "@b")), (("reset", "@b"), ("reset", "@a")),
                (("wait_until", "@g", "sees"), ("wait_until", "@h", "sees")), (("wait_until", "@g", "sees"), ("wait_until", "@g", "other")),
                (("wait_until", "@g", "sees", 1), ("wait_until", "@g", "sees", 2))):
            rows = lets(one, other)
            self.assert_unlike([(row[0], let("z", "it", "@x"), let("x", "it", 0)) for row in rows], ahead=ahead, sees=SEES, other=SEES)
            self.assert_same((rows[0], rows[0]), ahead=ahead, sees=SEES, other=SEES)

    def test_who_waits_in_a_row(self):
        full = tuple(do("put_nowait", name, 1) for name in ("@x", "@y"))
        held = tuple(wait("acquire", name) for name in ("@x", "@y"))
        for maker, wait_op, more in (
                (("lock",), "acquire", held), (("event",), "wait_on", ()), (("semaphore", 0), "acquire", ()),
                (("bounded", 0), "acquire", ()), (("queue",), "get", ()), (("barrier", 3), "wait_on", ()), (("queue",), "join", full),
                (("condition",), "acquire", held)):
            ahead = (let("x", *maker), let("y", *maker), let("z", "it", 0), *more)
            self.waits((wait_op, "@x"), (wait_op, "@y"), ahead=ahead)
            one = (let("c", wait_op, "@x"), let("t", "task", "@c"), let("c", wait_op, "@x"), let("s", "task", "@c"), let("c", "it", 0))
            other = (let("c", wait_op, "@x"), let("s", "task", "@c"), let("c", wait_op, "@x"), let("t", "task", "@c"), let("c", "it", 0))
            self.assert_unlike((one, other), ahead=ahead)

    def test_the_order_of_a_row(self):
        # Two tasks wait; which of them came first is told by the row alone.
        comes = asynced(
            ("if", ("it", "@late"), (sleep(0), let("late", "it", False)), (let("late", "it", False),)), wait("it", "@co"), params=("late", "co"))
        for maker, call, more in (
                (("lock",), ("acquire", "@x"), (wait("acquire", "@x"),)), (("event",), ("wait_on", "@x"), ()),
                (("semaphore", 0), ("acquire", "@x"), ()), (("bounded", 0), ("acquire", "@x"), ()), (("queue",), ("get", "@x"), ()),
                (("queue", 1), ("put", "@x", 2), (do("put_nowait", "@x", 1),)), (("queue",), ("join", "@x"), (do("put_nowait", "@x", 1),)),
                (("barrier", 3), ("wait_on", "@x"), ())):
            rows = []
            for one, other in ((False, True), (True, False)):
                rows.append(tuple(step for late in (one, other) for step in (
                    let("k", *call), let("c", "call", "comes", late, "@k"), do("task", "@c"), let("c", "it", 0), let("k", "it", 0))))
            self.assert_unlike(rows, ahead=(let("x", *maker), *more), turns=5, comes=comes)
            self.assert_same((rows[0], rows[0]), ahead=(let("x", *maker), *more), turns=5, comes=comes)

    def test_times_of_an_each(self):
        ahead = (let("x", "future"), let("y", "future"), let("x", "as_completed", ("@x",)), let("y", "as_completed", ("@y",)))
        # A time that was not begun has its Each.
        take = [(("each", "k", name, (("break",),)),) for name in ("@x", "@y")]
        left = [("each", "z", name, (("break",),)) for name in ("@y", "@x")]
        forget = let("z", "it", 0)
        self.assert_unlike(((*take[0], left[0], forget), (*take[1], left[1], forget)), ahead=ahead)
        # An Each that is gone through.
        then = (("each", "k", "@z", (let("k", "it", 0), let("z", "it", 0), *IDLE)),)
        self.assert_unlike(((left[0], let("z", "it", "@x")), (left[1], let("z", "it", "@y"))), ahead=ahead, then=then)

    def test_each(self):
        ahead = (let("x", "future"), let("y", "future"))
        made = let("e", "as_completed", ("@x", "@y"), 9)
        rows = [(made,), (let("e", "as_completed", ("@y", "@x"), 9),), (let("e", "as_completed", ("@x", "@y"), 8),),
                (let("e", "as_completed", ("@x", "@y")),), (let("e", "as_completed", ("@x",)),)]
        self.assert_unlike(*[(one, other) for at, one in enumerate(rows) for other in rows[:at]], ahead=ahead)
        one, other = do("set_result", "@x", 1), do("set_result", "@y", 1)
        self.assert_unlike(((made, one, other), (made, other, one)), ((made, one), (made, other)), ahead=ahead)
        # How many times are left.
        use = ("each", "k", "@e", (let("k", "it", 0), ("break",)))
        self.assert_unlike(((made, let("k", "it", 0)), (made, use)), ((made, use), (made, use, use)), ahead=ahead)
        # Who waits for an end.
        turn = asynced(("async_each", "k", "@E", ()))
        waits = (made, let("E", "it", "@e"), let("c", "call", "turn"), do("task", "@c"), let("c", "it", 0), sleep(0))
        self.assert_unlike((waits, (made, let("E", "it", "@e"), let("c", "call", "never"), do("task", "@c"), let("c", "it", 0))),
                           ahead=ahead, turn=turn, never=NEVER)


class ManagersTest(StateCase):
    def test_timeouts(self):
        rows = lets(("timeout", 5), ("timeout", 6), ("timeout", None))
        self.assert_unlike(*each_two(rows))
        # While it is new its time counts less the clock.
        self.assert_unlike((rows[0], (*rows[0], do("spend", 1))))
        self.assert_same((rows[0], (*rows[1], do("spend", 1))))
        # A block that was left in time has no time any more.
        used = [(("with", "x", ("timeout", delay), ()),) for delay in (5, 6, None)]
        self.assert_unlike((used[0], rows[2]))
        self.assert_same((used[0], used[0]))
        end = [(*row, do("spend", 9), sleep(0), sleep(0)) for row in used]
        self.assert_same((end[0], end[1]))
        self.assert_unlike((end[0], end[1]), probe=plain(do("when", 1)))

    def test_whether_a_timeout_has_expired(self):
        block = [("with", "x", ("timeout", 1), (sleep(ticks),)) for ticks in (0, 2)]
        rows = [(catch(step, then=()), let("e", "it", 0)) for step in block]
        self.assert_unlike(rows, turns=9)
        self.assert_same((rows[1], rows[1]), ((*rows[0], sleep(3)), rows[0]), turns=9)

    def test_a_block_within_a_timeout(self):
        then = (("with", "x", ("it", "@x"), IDLE),)
        self.assert_unlike(*each_two(lets(("timeout", 5), ("timeout", 6), ("timeout", None))), then=then)
        self.assert_same(lets(("timeout", 5), ("timeout", 5)), then=then)
        # The count that it notes.
        me = (let("t", "current"), let("z", "it", 0))
        ask = (catch(do("cancel", "@t"), sleep(0), then=()), do("uncancel", "@t"))
        later = (("with", "x", ("timeout", None), (do("uncancel", "@t"), *IDLE)),)
        self.assert_unlike(((catch(do("cancel", "@t"), sleep(0), then=()),), ask), ahead=(*me, let("e", "it", 0)), then=later,
                           turns=5)

    def test_who_entered_it(self):
        enters = asynced(("with", None, ("it", "@X"), ()))
        rows = [(let("X", "timeout", None), let("c", "call", "enters"), let(name, "task", "@c"), let("c", "it", 0),
                 let("c", "call", "enters"), let(other, "task", "@c"), let("c", "it", 0), sleep(0)) for name, other in (
                     ("t", "s"), ("s", "t"))]
        self.assert_unlike(rows, enters=enters)

    def test_groups(self):
        begin = [(let("c", "call", "w"), let(name, "start", "@g", "@c"), let("c", "it", 0)) for name in ("a", "b")]
        then = (let("a", "it", 0), let("b", "it", 0), ("with", "g", ("group",), (
            *begin[0], *begin[1], ("if", ("same", "@m", 1), (let("m", "it", 0), do("cancel", "@a")), (let("m", "it", 0),)), *IDLE)))
        self.assert_unlike(lets(("it", 1), ("it", 2)), then=(let("m", "it", "@x"), let("x", "it", 0), *then), w=NEVER)
        # Whether it was entered, and is left.
        self.assert_unlike(((let("g", "group"),), (("with", "g", ("group",), ()),)))

    def test_marks_of_a_group_that_was_left(self):
        fails = (let("e", "fault", "Odd"), ("raise", "@e"))
        bodies = [(), fails, (let("c", "call", "w"), do("start", "@g", "@c"), sleep(5))]
        rows = [(catch(("with", "g", ("group",), body), then=()), let("e", "it", 0), let("c", "it", 0)) for body in bodies]
        # One that ended well, one that aborted, one that has asked its parent besides.
        self.assert_unlike(*each_two(rows), turns=12, w=asynced(*fails))
        self.assert_same((rows[2], rows[2]), turns=12, w=asynced(*fails))

    def test_faults_of_a_group(self):
        drags = asynced(catch(sleep(99), then=()), let("f", "future"), wait("it", "@f"))
        for one, other in (("Odd", "Even"), ("Odd", None)):
            fails = [(let("f", "fault", kind), ("raise", "@f")) if kind else (catch(sleep(99), then=()),) for kind in (one, other)]
            ahead = (("with", "g", ("group",), (let("c", "call", "drags"), do("start", "@g", "@c"), let("c", "call", "w", "@n"),
                                                do("start", "@g", "@c"), let("c", "it", 0), let("n", "it", 0))),)
            program = Program({"main": ("async", ("n",), ahead), "drags": drags, "w": asynced(
                ("if", ("same", "@n", 1), fails[0], fails[1]), params=("n",))})
            self.assertFalse(are_in_one_state(life_of(program, 1, 6), life_of(program, 2, 6)))


class LinesTest(StateCase):
    def test_locks_events_semaphores(self):
        self.assert_unlike(*[((let("x", *maker),), (let("x", *maker), step)) for maker, step in (
            (("lock",), wait("acquire", "@x")), (("event",), do("set", "@x")), (("semaphore", 1), wait("acquire", "@x")),
            (("semaphore", 1), do("release", "@x")), (("bounded", 1), wait("acquire", "@x")),
            (("condition",), wait("acquire", "@x")), (("queue",), do("put_nowait", "@x", 1)), (("queue",), do("shutdown", "@x")))])
        self.assert_unlike(*each_two(lets(("semaphore", 1), ("semaphore", 2))), *each_two(lets(("barrier", 1), ("barrier", 2))),
                           *each_two(lets(("queue", 1), ("queue", 2))), *each_two(lets(("queue",), ("lifo_queue",), ("priority_queue",))))
        self.assert_same(((let("x", "lock"),), (let("x", "lock"), wait("acquire", "@x"), do("release", "@x"))),
                         ((let("x", "event"),), (let("x", "event"), do("set", "@x"), do("clear", "@x"))))

    def test_bounds(self):
        one = (let("x", "bounded", 2), wait("acquire", "@x"))
        self.assert_unlike((one, (let("x", "bounded", 1),)))

    def test_a_condition_stands_on_its_lock(self):
        ahead = (let("l", "lock"), let("k", "lock"))
        self.assert_unlike(*each_two(lets(("condition", "@l"), ("condition", "@k"), ("condition",))), ahead=ahead)

    def test_queues(self):
        puts = [do("put_nowait", "@x", at) for at in (1, 2)]
        ahead = (let("x", "queue"),)
        self.assert_unlike((puts[:1], puts[1:]), (puts, puts[::-1]), (puts, puts[:1]), ahead=ahead)
        # Unfinished items.
        get = do("get_nowait", "@x")
        self.assert_unlike(((puts[0], get), ()), ahead=ahead)
        self.assert_same(((puts[0], get, do("task_done", "@x")), ()), ahead=ahead)

    def test_who_joins_a_queue(self):
        ahead = (let("x", "queue"), do("put_nowait", "@x", 1), let("f", "future"))
        joins = (let("c", "join", "@x"), do("task", "@c"), let("c", "it", 0))
        waits = (let("c", "call", "never"), do("task", "@c"), let("c", "it", 0))
        self.assert_unlike((joins, waits), ((*joins, *joins), joins), ahead=ahead, never=NEVER)

    def test_who_puts(self):
        ahead = (let("x", "queue", 1), do("put_nowait", "@x", 1))
        rows = [(let("c", "put", "@x", item), do("task", "@c"), let("c", "it", 0)) for item in (1, 2)]
        self.assert_unlike(rows, ahead=ahead)

    def test_barriers(self):
        ahead = (let("x", "barrier", 2), let("f", "future"))
        comes = (let("c", "wait_on", "@x"), do("task", "@c"), let("c", "it", 0), sleep(0), sleep(0))
        abort = (let("c", "abort", "@x"), wait("it", "@c"), let("c", "it", 0))
        reset = (let("c", "reset", "@x"), wait("it", "@c"), let("c", "it", 0))
        self.assert_unlike(((let("c", "it", 0),), comes), ((let("c", "it", 0),), abort), ahead=ahead, turns=5)
        self.assert_same(((let("c", "it", 0),), reset), ((let("c", "it", 0),), (*abort, *reset)), ahead=ahead, turns=5)

    def test_a_wait_for_a_condition(self):
        # The first waits to be woken; the other one was woken, and waits for the lock.
        held = (let("x", "condition"), let("c", "call", "w"), do("task", "@c"), let("c", "it", 0), sleep(0), wait("acquire", "@x"))
        self.assert_unlike(((), (do("notify", "@x"),)), ahead=(let("X", "condition"), let("x", "it", "@X"), *held[1:]), turns=6,
                           w=asynced(("with", None, ("it", "@X"), (wait("wait_on", "@X"),))))

    def test_a_fault_that_waits_for_a_lock(self):
        # Behind a wait for a condition both wait for its lock; one of them was cancelled, the other one was woken.
        ahead = (let("X", "condition"), let("x", "it", "@X"), let("c", "call", "w"), let("t", "task", "@c"), let("c", "it", 0), sleep(0),
                 wait("acquire", "@x"))
        cancelled = (do("cancel", "@t"), do("uncancel", "@t"))
        self.assert_unlike((cancelled, (do("notify", "@x"),)), (cancelled, (do("cancel", "@t", "m"), do("uncancel", "@t"))),
                           ahead=ahead, turns=6, w=asynced(("with", None, ("it", "@X"), (wait("wait_on", "@X"),))))


class TextsTest(unittest.TestCase):
    def test_same_values_have_the_same_text_and_others_have_not(self):
        leaves = (None, True, False, 0, 1, -1, 10, 255, 10**5000, "", "none", "true", "1", "ff", " ", "a", "a b", "(0", "0:", "1:a", "3:a b")
        values = [*leaves, *((leaf,) for leaf in leaves), *(((leaf,), "a") for leaf in leaves), *((leaf, ("a",)) for leaf in leaves),
                  (), ((),), ((), ()), (("a", "b"), "c"), ("a", ("b", "c")), ("a", "b", "c"), ("a b", "c"), ("a", "b c")]
        for at, one in enumerate(values):
            for other in values[:at + 1]:
                self.assertEqual(is_same(one, other), value_text(one) == value_text(other), (one, other))


class PhasesTest(StateCase):
    STUBBORN = asynced(catch(sleep(99), then=()), *IDLE)

    def test_what_came_out_of_main(self):
        begin = (let("c", "call", "stubborn"), do("task", "@c"), sleep(0))
        rows = [(*begin, ("return", value)) for value in (1, 2, True)]
        for one, other in ((0, 1), (0, 2)):
            program = Program({"main": ("async", ("n",), (("if", ("same", "@n", 1), rows[one], rows[other]),)), "stubborn": self.STUBBORN})
            for turns in (6, 9):
                self.assertFalse(are_in_one_state(life_of(program, 1, turns), life_of(program, 2, turns)))
                self.assertTrue(are_in_one_state(life_of(program, 1, turns + 1), life_of(program, 1, turns + 2)))

    def test_the_tasks_that_are_being_cancelled(self):
        # One of them is done, and nobody else has it; its fault will be told at the end.
        fails = asynced(catch(sleep(99), then=()), let("f", "fault", "Odd", "@k"), ("raise", "@f"), params=("k",))
        begin = (let("c", "call", "stubborn"), do("task", "@c"), let("c", "call", "fails", "@n"), do("task", "@c"), sleep(0))
        program = Program({"main": ("async", ("n",), begin), "stubborn": self.STUBBORN, "fails": fails})
        self.assertFalse(are_in_one_state(life_of(program, 1, 9), life_of(program, 2, 9)))
        self.assertTrue(are_in_one_state(life_of(program, 1, 9), life_of(program, 1, 10)))

    def test_the_phase(self):
        program = Program({"main": ("async", ("n",), (("return", None),))})
        lives = [life_of(program, 1, turns) for turns in range(6)]
        for at, one in enumerate(lives):
            for other in lives[:at]:
                self.assertFalse(are_in_one_state(one, other))

    def test_a_life_ahead_of_its_first_turn(self):
        program = Program({"main": ("async", ("n",), IDLE)})
        self.assertTrue(are_in_one_state(life_of(program, 1, 0), life_of(program, 1, 0)))
        self.assertFalse(are_in_one_state(life_of(program, 1, 0), life_of(program, 2, 0)))
        self.assertFalse(are_in_one_state(life_of(program, 1, 0), life_of(program, 1, 1)))


if __name__ == "__main__":
    unittest.main()
