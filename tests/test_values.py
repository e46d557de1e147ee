"""Values, faults, variables, and calls on values [1, 5.2, 5.4]."""

import unittest

from tests.helper import (
    SAYS, Case, asynced, catch, do, fault, let, log, plain, said, say, sleep, start, tell,
)


class ShowingTest(Case):
    def test_plain_values_as_they_are(self):
        self.assert_said([(None, True, 0, -7, "", "x", (), (1, ("a", None)))],
                         say(None, True, 0, -7, "", "x", (), (1, ("a", None))))
        row = log(say(True, 1, (False, 0)))[0]
        self.assertEqual([bool, int, tuple], [type(value) for value in row[2:]])
        self.assertEqual([bool, int], [type(value) for value in row[4]])

    def test_entry(self):
        self.assertEqual([(0, "Task-1"), (4, "Task-1", 1), (4, None, 2), (5, "Task-1")],
                         log(say(), sleep(4), say(1), do("soon", "tell", 2), sleep(1), say(), tell=SAYS))

    def test_faults(self):
        self.assert_said([fault("Odd"), fault("Odd", 1, fault("Other", (2,)))],
                         let("f", "fault", "Odd"), say("@f"), let("g", "fault", "Other", (2,)),
                         let("f", "fault", "Odd", 1, "@g"), say("@f"))

    def test_groups(self):
        self.assert_said([fault("ExceptionGroup", "m", (fault("A"), fault("B", 1)))],
                         let("a", "fault", "A"), let("b", "fault", "B", 1), let("g", "group_of", "m", ("@a", "@b")),
                         say("@g"))

    def test_things_get_their_numbers_when_they_are_first_shown(self):
        self.assert_said([("Future-1", "Future-2"), ("Lock-1", "Future-1"), (("Future-3", "Future-2"), "Lock-1")],
                         let("a", "future"), let("b", "future"), let("c", "future"), let("l", "lock"),
                         say("@b", "@c"), say("@l", "@b"), say(("@a", "@c"), "@l"))

    def test_numbers_within_a_fault(self):
        self.assert_said([fault("Odd", "Future-1", "Event-1"), ("Event-1", "Future-1")],
                         let("f", "future"), let("e", "event"), let("x", "fault", "Odd", "@f", "@e"), say("@x"),
                         say("@e", "@f"))

    def test_kinds_of_things(self):
        makers = {
            "Handle": ("soon", "tell", 1), "Coroutine": ("sleep", 1), "Future": ("future",),
            "Each": ("as_completed", ()), "Timeout": ("timeout", 1), "TaskGroup": ("group",), "Lock": ("lock",),
            "Event": ("event",), "Condition": ("condition",), "Semaphore": ("semaphore",),
            "BoundedSemaphore": ("bounded",), "Barrier": ("barrier", 1), "Queue": ("queue",),
        }
        for kind, call in makers.items():
            self.assertEqual(f"{kind}-1", said(let("x", *call), say("@x"), tell=SAYS)[0])
        for call in (("later", 1, "tell", 1), ("at", 1, "tell", 1)):
            self.assertEqual("Handle-1", said(let("x", *call), say("@x"), tell=SAYS)[0])
        self.assertEqual("Coroutine-1", said(let("x", "call", "co"), say("@x"), co=asynced())[0])
        self.assert_said(["Future-1", "Future-2", "Future-3"], let("a", "future"), let("x", "gather", ("@a",)),
                         say("@x"), let("x", "shield", "@a"), say("@x"), say("@a"))
        self.assert_said(["Queue-1", "Queue-2"], let("q", "lifo_queue"), say("@q"), let("q", "priority_queue"),
                         say("@q"))

    def test_a_task_is_shown_as_its_name(self):
        self.assert_said(["Task-2", "own"], start("t", "call", "co"), say("@t"), let("c", "call", "co"),
                         let("t", "task", "@c", "own"), say("@t"), co=asynced())


class SameTest(Case):
    def same(self, expected, *steps):
        self.assert_said([expected], *steps, let("r", "same", "@a", "@b"), say("@r"))

    def test_plain_values(self):
        for a, b, expected in (
            (1, 1, True), (1, 2, False), ("a", "a", True), ("a", "b", False), (None, None, True), (True, True, True),
            (True, 1, False), (False, 0, False), (0, None, False), ("", None, False), ("1", 1, False),
            ((), (), True), ((1, (2,)), (1, (2,)), True), ((1,), (True,), False), ((1,), (1, 1), False),
            ((1, 2), (1, 3), False), ((1,), 1, False), ((), None, False),
        ):
            self.same(expected, let("a", "it", a), let("b", "it", b))
            self.same(expected, let("a", "it", b), let("b", "it", a))

    def test_things_and_faults(self):
        self.same(True, let("a", "future"), let("b", "it", "@a"))
        self.same(False, let("a", "future"), let("b", "future"))
        self.same(True, let("a", "fault", "Odd"), let("b", "it", "@a"))
        self.same(False, let("a", "fault", "Odd", 1), let("b", "fault", "Odd", 1))
        self.same(True, let("x", "lock"), let("a", "it", (1, "@x")), let("b", "it", (1, "@x")))
        self.same(False, let("x", "lock"), let("y", "lock"), let("a", "it", ("@x",)), let("b", "it", ("@y",)))

    def test_what_counts_as_false(self):
        for value in (None, False, 0, "", ()):
            self.assert_said(["no", True], ("if", ("it", value), (say("yes"),), (say("no"),)), tell("not", value))
        for value in (True, 1, -1, "0", " ", (None,), ((),)):
            self.assert_said(["yes", False], ("if", ("it", value), (say("yes"),), (say("no"),)), tell("not", value))
        for call in (("future",), ("fault", "Odd"), ("lock",), ("queue",)):
            self.assert_said([False], let("x", *call), tell("not", "@x"))


class KindsTest(Case):
    def taken(self, kind, handler):
        return said(let("f", "fault", kind), catch(catch(("raise", "@f"), kinds=(handler,), then=(say("taken"),)),
                                                   then=(say("not"),))) == ["taken"]

    def test_what_is_above(self):
        for kind in ("Odd", "ValueError", "TimeoutError", "BlockingIOError", "BrokenBarrierError", "OSError",
                     "RuntimeError", "InvalidStateError", "QueueFull"):
            self.assertTrue(self.taken(kind, kind))
            self.assertTrue(self.taken(kind, "Exception"))
            self.assertTrue(self.taken(kind, "BaseException"))
            self.assertFalse(self.taken(kind, "Other"))
            self.assertFalse(self.taken(kind, "BaseExceptionGroup"))
        for kind in ("CancelledError", "SystemExit", "KeyboardInterrupt"):
            self.assertTrue(self.taken(kind, kind))
            self.assertTrue(self.taken(kind, "BaseException"))
            self.assertFalse(self.taken(kind, "Exception"))

    def test_pairs(self):
        for kind, handler in (("TimeoutError", "OSError"), ("BlockingIOError", "OSError"),
                              ("BrokenBarrierError", "RuntimeError")):
            self.assertTrue(self.taken(kind, handler))
            self.assertFalse(self.taken(handler, kind))
        for kind, handler in (("TimeoutError", "BlockingIOError"), ("IndexError", "LookupError"),
                              ("BrokenBarrierError", "OSError"), ("odd", "Odd")):
            self.assertFalse(self.taken(kind, handler))

    def test_groups_as_kinds(self):
        def taken(kind, handler):
            return said(let("f", "fault", kind), let("g", "group_of", "m", ("@f",)),
                        catch(catch(("raise", "@g"), kinds=(handler,), then=(say("taken"),)),
                              then=(say("not"),))) == ["taken"]
        for handler in ("ExceptionGroup", "BaseExceptionGroup", "Exception", "BaseException"):
            self.assertTrue(taken("Odd", handler))
        self.assertFalse(taken("Odd", "Odd"))
        for handler, expected in (("ExceptionGroup", False), ("BaseExceptionGroup", True), ("Exception", False),
                                  ("BaseException", True)):
            self.assertEqual(expected, taken("CancelledError", handler))

    def test_faults_of_the_loop_have_no_args(self):
        self.assert_said([()], catch(let("x", "size", 1), then=(let("a", "args", "@e"), say("@a"))))


class VariablesTest(Case):
    def test_a_variable_without_value(self):
        self.assert_fault("NameError", "it", "@nope")
        self.assert_fault("NameError", "it", "@Nope")
        self.assert_fault("NameError", "it", (1, ("@nope",)))
        self.assert_said([fault("NameError")], catch(say(1, "@nope")))
        self.assert_said([fault("NameError")], catch(("return", "@nope")))
        self.assert_said([fault("NameError")], catch(("raise", "@nope")))
        self.assert_said([fault("NameError")], catch(("each", "x", "@nope", ())))

    def test_args_are_found_ahead_of_the_call(self):
        self.assert_said([fault("NameError")], tell("add", 1, "@nope"))
        self.assert_said([fault("NameError")], tell("call", "none_args", "@nope"), none_args=plain())

    def test_shared_and_own_variables(self):
        sets = plain(let("Shared", "it", 2), let("own", "it", 2))
        self.assert_said([(2, 1)], let("Shared", "it", 1), let("own", "it", 1), do("call", "sets"),
                         say("@Shared", "@own"), sets=sets)
        self.assert_said([fault("NameError")], let("own", "it", 1), tell("call", "reads"),
                         reads=plain(say("@own")))
        self.assert_said([7], let("Own", "it", 7), do("call", "reads"), reads=plain(say("@Own")))

    def test_each_call_has_its_own_variables(self):
        counts = plain(("if", ("less", "@n", 3), (let("m", "add", "@n", 1), do("call", "counts", "@m")), ()),
                       say("@n"), params=("n",))
        self.assert_said([3, 2, 1], do("call", "counts", 1), counts=counts)

    def test_values_in_tuples(self):
        self.assert_said([((1, ("b", 2)), "x@")], let("a", "it", 2), say((1, ("b", "@a")), "x@"))


class OpsTest(Case):
    def ask(self, *call, before=()):
        return said(*before, tell(*call))[0]

    def test_it(self):
        for value in (None, 0, "", (1,), True):
            self.assertEqual(value, self.ask("it", value))

    def test_less(self):
        for a, b, expected in ((1, 2, True), (2, 2, False), (3, 2, False), ("a", "b", True), ("b", "a", False),
                               ("", "a", True), ("Z", "a", True), (-1, 0, True)):
            self.assertIs(expected, self.ask("less", a, b))
        for a, b in ((1, "a"), ("a", 1), (True, 2), (0, True), (None, None), ((1,), (2,)), (True, False)):
            self.assertEqual(fault("TypeError"), self.ask("less", a, b))

    def test_add(self):
        for a, b, expected in ((1, 2, 3), (-1, 1, 0), ("a", "b", "ab"), ("", "", ""), ((), (), ()),
                               ((1,), ("x", 2), (1, "x", 2))):
            self.assertEqual(expected, self.ask("add", a, b))
        for a, b in ((1, "a"), (1, True), (False, 1), (None, 1), ((1,), "a"), ("a", ("a",)), (None, None)):
            self.assertEqual(fault("TypeError"), self.ask("add", a, b))

    def test_item(self):
        self.assertEqual("a", self.ask("item", ("a", "b"), 0))
        self.assertEqual("b", self.ask("item", ("a", "b"), 1))
        for index in (2, -1, 99):
            self.assertEqual(fault("IndexError"), self.ask("item", ("a", "b"), index))
        for row, index in (((1,), True), ((1,), "0"), ((1,), None), ((1,), (0,)), ("abc", 0), (None, 0), (5, 9)):
            self.assertEqual(fault("TypeError"), self.ask("item", row, index))

    def test_size(self):
        self.assertEqual(0, self.ask("size", ()))
        self.assertEqual(2, self.ask("size", (1, (2, 3))))
        for row in ("abc", None, 3):
            self.assertEqual(fault("TypeError"), self.ask("size", row))

    def test_faults(self):
        before = (let("f", "fault", "Odd", 1, ("a",)),)
        self.assertEqual("Odd", self.ask("kind", "@f", before=before))
        self.assertEqual((1, ("a",)), self.ask("args", "@f", before=before))
        self.assertEqual((), self.ask("args", "@f", before=(let("f", "fault", "Odd"),)))
        for op in ("kind", "args"):
            for value in (None, "Odd", 1, ("fault", "Odd")):
                self.assertEqual(fault("TypeError"), self.ask(op, value))

    def test_call(self):
        self.assert_said([(1, 2), "back"], let("r", "call", "sub", 1, 2), say("@r"),
                         sub=plain(say("@a", "@b"), ("return", "back"), say("never"), params=("a", "b")))
        self.assert_said([None], tell("call", "sub"), sub=plain())
        self.assert_said([fault("Odd")], tell("call", "sub"), sub=plain(let("f", "fault", "Odd"), ("raise", "@f")))

    def test_a_call_of_an_async_routine_is_not_begun(self):
        self.assert_said(["Coroutine-1", "after"], let("c", "call", "co"), say("@c"), say("after"),
                         do("close", "@c"), co=asynced(say("never")))

    def test_call_with_the_wrong_number_of_args(self):
        for call in (("sub",), ("sub", 1, 2), ("co",), ("co", 1, 2)):
            self.assert_said([fault("TypeError")], tell("call", *call), sub=plain(params=("a",)),
                             co=asynced(params=("a",)))

    def test_a_plain_routine_is_carried_out_in_its_task(self):
        rows = log(do("call", "sub"), do("soon", "sub"), sleep(0), sub=plain(let("t", "current"), say("@t")))
        self.assertEqual([(0, "Task-1", "Task-1"), (0, None, None)], rows)


if __name__ == "__main__":
    unittest.main()
