"""Groups of faults, and task groups [8]."""

import unittest

from loopyard.running import Life
from tests.helper import (
    Case, asynced, catch, do, fault, let, log, main, plain, report, said, say, sleep, start, tell, tell_await,
)

CANCELLED = fault("CancelledError")
RUNTIME = fault("RuntimeError")
TYPE = fault("TypeError")
MESSAGE = "unhandled errors in a TaskGroup"
ABC = tuple(let(name, "fault", kind, number) for name, kind, number in (
    ("a", "ValueError", 1), ("b", "TypeError", 2), ("c", "KeyError", 3)))
NESTED = (*ABC, let("n", "group_of", "n", ("@b", "@c")), let("g", "group_of", "m", ("@a", "@n")))
CANCEL = let("k", "fault", "CancelledError", "x")


def grouped(*parts, message="m", kind="ExceptionGroup"):
    return fault(kind, message, parts)


A, B, C = fault("ValueError", 1), fault("TypeError", 2), fault("KeyError", 3)


class GroupsOfFaultsTest(Case):
    def test_group_of(self):
        self.assert_said([grouped(A, B)], *ABC, tell("group_of", "m", ("@a", "@b")))
        self.assert_said([grouped(A, message="")], *ABC, tell("group_of", "", ("@a",)))
        for kind in ("CancelledError", "SystemExit", "KeyboardInterrupt"):
            self.assert_said([grouped(A, fault(kind), kind="BaseExceptionGroup")], *ABC, let("x", "fault", kind),
                             tell("group_of", "m", ("@a", "@x")))
        self.assert_said(["BaseExceptionGroup"], CANCEL, let("g", "group_of", "m", ("@k",)),
                         let("h", "group_of", "n", ("@g",)), tell("kind", "@h"))

    def test_what_group_of_refuses_in_order(self):
        for message, faults, kind in (
            (None, None, "TypeError"), (1, (), "TypeError"), ("m", None, "TypeError"), ("m", "@a", "TypeError"),
            ("m", "ab", "TypeError"), ("m", (), "ValueError"), ("m", ("@a", 1), "ValueError"),
            ("m", (None,), "ValueError"), (("m",), ("@a",), "TypeError"), ("@a", ("@a",), "TypeError"),
        ):
            self.assert_fault(kind, "group_of", message, faults, before=ABC)

    def test_parts_and_args(self):
        self.assert_said([("m",), "ExceptionGroup", (A, grouped(B, C, message="n")), ()], *NESTED, tell("args", "@g"),
                         tell("kind", "@g"), tell("faults_of", "@g"), tell("faults_of", "@a"))
        self.assert_said([True], *NESTED, let("p", "faults_of", "@g"), let("p", "item", "@p", 0),
                         tell("same", "@p", "@a"))

    def test_split(self):
        inner = grouped(B, C, message="n")
        for kinds, expected in (
            ("TypeError", (grouped(grouped(B, message="n")), grouped(A, grouped(C, message="n")))),
            ("ValueError", (grouped(A), grouped(inner))),
            (("TypeError", "KeyError"), (grouped(inner), grouped(A))),
            (("ValueError", "KeyError"), (grouped(A, grouped(C, message="n")), grouped(grouped(B, message="n")))),
            ("Exception", (grouped(A, inner), None)), ("ExceptionGroup", (grouped(A, inner), None)),
            ("BaseExceptionGroup", (grouped(A, inner), None)), ("BaseException", (grouped(A, inner), None)),
            ("Odd", (None, grouped(A, inner))), ((), (None, grouped(A, inner))), ("", (None, grouped(A, inner))),
            ("no name", (None, grouped(A, inner))),
        ):
            self.assert_said([expected, expected[0]], *NESTED, tell("split", "@g", kinds), tell("subgroup", "@g", kinds))

    def test_which_are_the_very_faults(self):
        same = let("s", "same", "@p", "@g"), say("@s")
        self.assert_said([True], *NESTED, let("p", "subgroup", "@g", "Exception"), *same)
        self.assert_said([False], *NESTED, let("p", "split", "@g", "Odd"), let("p", "item", "@p", 1), *same)
        self.assert_said([True], *NESTED, let("p", "subgroup", "@g", ("TypeError", "KeyError")),
                         let("p", "faults_of", "@p"), let("p", "item", "@p", 0), let("p", "faults_of", "@p"),
                         let("p", "item", "@p", 0), tell("same", "@p", "@b"))

    def test_what_is_no_group(self):
        self.assert_said([(A, None), (None, A), A, None], *ABC, tell("split", "@a", "ValueError"),
                         tell("split", "@a", ("KeyError",)), tell("subgroup", "@a", "Exception"),
                         tell("subgroup", "@a", ()))
        self.assert_said([(None, CANCELLED)], let("k", "fault", "CancelledError"), tell("split", "@k", "Exception"))

    def test_the_kind_of_new_groups(self):
        base = (*ABC, CANCEL, let("g", "group_of", "m", ("@a", "@k")))
        own = fault("CancelledError", "x")
        self.assert_said([(grouped(A), grouped(own, kind="BaseExceptionGroup"))], *base,
                         tell("split", "@g", "ValueError"))
        self.assert_said([(grouped(A), grouped(own, kind="BaseExceptionGroup"))], *base,
                         tell("split", "@g", "Exception"))
        self.assert_said([(grouped(own, kind="BaseExceptionGroup"), grouped(A))], *base,
                         tell("split", "@g", "CancelledError"))

    def test_what_they_refuse(self):
        for op in ("split", "subgroup"):
            for value in (None, 1, "x", ()):
                self.assert_fault("TypeError", op, value, "Odd")
            for kinds in (None, 1, True, ("Odd", 1), (("Odd",),), "@a"):
                self.assert_fault("TypeError", op, "@a", kinds, before=ABC)
        for value in (None, 1, "x", ("@a",)):
            self.assert_fault("TypeError", "faults_of", value, before=ABC)


FAILS = asynced(sleep("@n"), let("f", "fault", "Odd", "@n"), ("raise", "@f"), params=("n",))
LONG = asynced(catch(sleep("@n"), then=(say("long", "@e"), ("raise",))), say("long end"), params=("n",))


def begin(*call):
    """Start a task of the group g."""
    return ("if", ("it", 1), (let("c", *call), let("s", "start", "@g", "@c")), ())


def group(*steps):
    return catch(("with", "g", ("group",), steps), say("left"))


def requests():
    return ("if", ("it", 1), (let("m", "current"), tell("cancelling", "@m")), ())


class TaskGroupTest(Case):
    def test_it_waits_for_its_tasks(self):
        self.assertEqual([(0, "Task-1", "in"), (5, "Task-3", 5), (5, "Task-1", "left"), (5, "Task-1", 0)],
                         log(group(begin("sleep", 3), begin("call", "co", 5), say("in")), requests(),
                             co=asynced(sleep("@n"), say("@n"), params=("n",))))

    def test_leaving_takes_no_turn_without_tasks(self):
        life = Life(main(group(), say("end")), ("main",))
        life.turn()
        self.assertEqual(2, len(life.log))

    def test_entering(self):
        self.assert_said(["TaskGroup-1", "left", RUNTIME], group(say("@g")), catch(("with", None, ("it", "@g"), ())))
        self.assert_said([RUNTIME, "left"], group(catch(("with", None, ("it", "@g"), ()))))

    def test_start(self):
        self.assert_said(["Task-2", "own", ("Task-1", "Task-2", "own"), "left"], group(
            let("c", "sleep", 1), tell("start", "@g", "@c"), let("c", "sleep", 1), tell("start", "@g", "@c", "own"),
            tell("tasks")))

    def test_what_start_refuses_in_order(self):
        co = let("c", "sleep", 1)
        for value in (None, 1, "x", "@c"):
            self.assert_fault("AttributeError", "start", value, 1, 1, before=(co,))
        made = (co, let("g", "group"))
        for value in (None, 1, "x", "@g"):
            self.assert_fault("TypeError", "start", "@g", value, 1, before=made)
        for name in (1, True, (), "@g"):
            self.assert_fault("TypeError", "start", "@g", "@c", name, before=made)
        told = report(*made, tell("start", "@g", "@c", 1))
        self.assertEqual(["coroutine was never awaited"], [note[1] for note in told.notes])
        told = report(*made, tell("start", "@g", "@c"), tell_await("it", "@c"))
        self.assertEqual([RUNTIME, RUNTIME], [row[2] for row in told.log])
        self.assertEqual([], told.notes)

    def test_start_behind_the_group(self):
        told = report(group(), let("c", "sleep", 1), tell("start", "@g", "@c"))
        self.assertEqual(["left", RUNTIME], [row[2] for row in told.log])
        self.assertEqual([], told.notes)

    def test_start_while_the_group_aborts(self):
        self.assert_said([CANCELLED, RUNTIME, grouped(fault("Odd", 1), message=MESSAGE)], group(
            begin("call", "fails", 1), catch(sleep(9), then=(say("@e"), let("c", "sleep", 1),
                                                             tell("start", "@g", "@c")))), fails=FAILS)

    def test_a_task_may_start_further_ones_while_the_parent_waits(self):
        self.assertEqual([(6, "Task-1", "left")], log(
            group(let("G", "it", "@g"), begin("call", "co")), co=asynced(sleep(2), let("c", "sleep", 4),
                                                                        do("start", "@G", "@c"))))

    def test_the_callback_stands_behind_what_was_laid(self):
        # The group's callback is laid when the task is made: ahead of a callback that the program lays.
        rows = said(group(begin("call", "fails", 1), do("on_done", "@s", "cb"), catch(sleep(9), then=(say("@e"),))),
                    fails=FAILS, cb=plain(say("cb"), params=("t",)))
        self.assertEqual(["cb", CANCELLED, grouped(fault("Odd", 1), message=MESSAGE)], rows)

    def test_a_fault_of_a_task(self):
        rows = log(group(begin("call", "fails", 2), begin("call", "long", 9), sleep(20)), requests(), fails=FAILS,
                   long=LONG)
        self.assertEqual([(2, "Task-3", "long", CANCELLED), (2, "Task-1", grouped(fault("Odd", 2), message=MESSAGE)),
                          (2, "Task-1", 0)], rows)

    def test_a_fault_of_a_task_is_told_once(self):
        self.assertEqual([], report(group(begin("call", "fails", 2), sleep(20)), fails=FAILS).notes)

    def test_faults_in_the_order_in_which_they_came(self):
        late = asynced(catch(sleep(9), then=(let("f", "fault", "Late"), ("raise", "@f"))))
        self.assert_said([grouped(fault("Odd", 2), fault("Late"), message=MESSAGE)],
                         group(begin("call", "late"), begin("call", "fails", 2), begin("call", "long", 5)),
                         fails=FAILS, late=late, long=asynced(sleep("@n"), params=("n",)))

    def test_a_task_that_is_cancelled_is_no_fault(self):
        self.assertEqual([(3, "Task-1", "left")], log(group(begin("sleep", 9), let("t", "it", "@s"),
                                                            begin("sleep", 3), sleep(1), do("cancel", "@t"))))

    def test_a_fault_in_the_block(self):
        odd = (let("f", "fault", "Odd", 1), ("raise", "@f"))
        self.assert_said([grouped(fault("Odd", 1), message=MESSAGE), 0], group(*odd), requests())
        self.assert_said([("long", CANCELLED), grouped(fault("Odd", 1), message=MESSAGE), 0],
                         group(begin("call", "long", 9), sleep(1), *odd), requests(), long=LONG)

    def test_faults_of_tasks_stand_ahead_of_that_of_the_block(self):
        odd = (let("f", "fault", "Body"), ("raise", "@f"))
        self.assert_said([grouped(fault("Odd", 1), fault("Body"), message=MESSAGE)],
                         group(begin("call", "fails", 1), catch(sleep(9), then=odd)), fails=FAILS)

    def test_return_and_break_out_of_the_block(self):
        self.assertEqual([(3, "Task-1", 7)], log(tell_await("call", "co"), co=asynced(
            ("with", "g", ("group",), (begin("sleep", 3), ("return", 7))))))
        self.assertEqual([(3, "Task-1", "end")], log(
            ("while", ("it", 1), (("with", "g", ("group",), (begin("sleep", 3), ("break",))),)), say("end")))
        self.assert_said([grouped(fault("Odd", 1), message=MESSAGE)], tell_await("call", "co"), fails=FAILS,
                         co=asynced(("with", "g", ("group",), (begin("call", "fails", 1), ("return", 7)))))

    def test_a_request_from_outside(self):
        holds = asynced(group(begin("call", "long", 9), sleep(9)), requests(), say("on"))
        self.assert_said([("long", CANCELLED), fault("CancelledError", "m"), 1, "on"], start("t", "call", "holds"),
                         sleep(1), do("cancel", "@t", "m"), sleep(2), holds=holds, long=LONG)

    def test_a_request_from_outside_while_the_parent_leaves(self):
        holds = asynced(group(begin("call", "long", 9)), requests(), say("on"))
        self.assert_said([("long", CANCELLED), fault("CancelledError", "m"), 1, "on"], start("t", "call", "holds"),
                         sleep(1), do("cancel", "@t", "m"), sleep(2), holds=holds, long=LONG)

    def test_a_request_while_the_group_aborts_is_not_lost(self):
        drags = asynced(catch(sleep(9), then=(sleep(5), ("raise",))))
        holds = asynced(group(begin("call", "fails", 1), begin("call", "drags"), sleep(9)), requests(),
                        tell_await("sleep", 1), say("on"))
        rows = log(start("t", "call", "holds"), sleep(3), do("cancel", "@t"), sleep(9), fails=FAILS, drags=drags,
                   holds=holds)
        self.assertEqual([(6, "Task-2", grouped(fault("Odd", 1), message=MESSAGE)), (6, "Task-2", 1),
                          (6, "Task-2", CANCELLED), (6, "Task-2", "on")], rows)

    def test_requests_that_were_open_ahead_of_it(self):
        self.assert_said([CANCELLED, grouped(fault("Odd", 1), message=MESSAGE), 1, CANCELLED],
                         let("m", "current"), do("cancel", "@m"), tell_await("sleep", 1),
                         group(begin("call", "fails", 1), sleep(9)), requests(), tell_await("sleep", 1), fails=FAILS)

    def test_a_great_fault_of_a_task(self):
        told = report(group(begin("call", "great"), begin("call", "long", 9), sleep(20)), say("on"), long=LONG,
                      great=asynced(sleep(1), let("f", "fault", "SystemExit", 3), ("raise", "@f")))
        self.assertEqual(("fault", fault("SystemExit", 3)), told.outcome)

    def test_a_great_fault_stands_ahead_of_all_others(self):
        great = (let("f", "fault", "KeyboardInterrupt", 3), ("raise", "@f"))
        self.assert_said([("long", CANCELLED), fault("KeyboardInterrupt", 3)],
                         catch(("with", "g", ("group",), (begin("call", "long", 9), sleep(1), *great))), long=LONG)
        self.assert_said([fault("KeyboardInterrupt", 3), 1],
                         group(begin("call", "fails", 1), catch(sleep(9), then=great)), requests(), fails=FAILS)

    def test_a_handled_request_of_the_group(self):
        # The block swallows the CancelledError; the fault is raised all the same, and the count is 0.
        self.assert_said([CANCELLED, grouped(fault("Odd", 1), message=MESSAGE), 0],
                         group(begin("call", "fails", 1), tell_await("sleep", 9)), requests(), fails=FAILS)

    def test_groups_within_one_another(self):
        inner = catch(("with", "g", ("group",), (begin("call", "fails", 1), sleep(9))), then=(say("@e"), ("raise",)))
        one = grouped(fault("Odd", 1), message=MESSAGE)
        self.assert_said([one, grouped(one, message=MESSAGE), 0],
                         catch(("with", "h", ("group",), (inner,))), requests(), fails=FAILS)

    def test_the_order_of_aborting(self):
        tells = asynced(catch(sleep(9), then=(say("@n"), ("raise",))), params=("n",))
        self.assert_said([1, 2, 3, grouped(fault("Odd", 1), message=MESSAGE)],
                         group(*[begin("call", "tells", n) for n in (1, 2, 3)], begin("call", "fails", 1)),
                         fails=FAILS, tells=tells)

    def test_a_turn_by_turn_account(self):
        def last(rows):
            return rows[-1][2] if rows else None
        life = Life(main(let("m", "current"), group(
            begin("call", "f"), begin("call", "h"),
            catch(sleep(50), then=(say("parent", "@e"), ("raise",)))), requests(),
            f=asynced(say("f"), let("x", "fault", "ValueError", 1), ("raise", "@x")),
            h=asynced(catch(sleep(100), then=(say("h", "@e"), ("raise",))))), ("main",))
        rows = []
        for _ in range(6):
            life.turn()
            rows.append([row[2] for row in life.log])
        self.assertEqual([[], ["f"], ["f"], ["f", "h", "parent"], ["f", "h", "parent"]], rows[:5])
        self.assertEqual([grouped(A, message=MESSAGE), 0], rows[5][3:])
        self.assertEqual(0, last(life.log))

    def test_the_group_forgets_its_parent(self):
        life = Life(main(group(let("G", "it", "@g"), begin("call", "fails", 1)), sleep(5), fails=FAILS), ("main",))
        while not life.log:
            life.turn()
        made = life.loop.shared["G"]
        self.assertEqual(([], None, None, []), (made.faults, made.great, made.parent, made.members))

    def test_a_task_that_fails_behind_its_parent(self):
        # Nothing in a program leads there; the callback of the group is called by hand.
        life = Life(main(("with", "G", ("group",), (start("t", "call", "fails", 1), let("T", "it", "@t"),
                                                   sleep(2))), fails=FAILS), ("main",))
        for _ in range(4):
            life.turn()
        made, task = life.loop.shared["G"], life.loop.shared["T"]
        made.members.append(task)
        made.parent = task
        made.fire(life.loop, task)
        self.assertEqual([(1, "Task errored out but its parent task is already completed", "Task-2",
                           fault("Odd", 1))], life.notes)
        self.assertFalse(made.aborting)


if __name__ == "__main__":
    unittest.main()
