"""Programs, and what is none [5.1 to 5.3, 5.9 to 5.11]."""

import unittest

from loopyard.program import Program
from tests.helper import Case

STRANGE = (None, True, 3, 1.5, "x", b"x", [], {}, object(), int, {1}, frozenset())

# Every op with the fewest args that it takes, and with the most.
COUNTS = {
    0: "time current tasks stop future group lock event",
    1: "it not size kind args spend unread read ensure name close result exception done cancelled cancelling "
       "uncancel shield timeout timeout_at expired when faults_of barrier locked acquire release is_set set clear "
       "wait_on notify_all reset abort parties waiting broken get get_nowait qsize empty full task_done join",
    2: "same less add item set_result set_exception wait_for reschedule group_of split subgroup put put_nowait",
    (0, 1): "condition semaphore bounded queue lifo_queue priority_queue",
    (1, 2): "task cancel sleep gather as_completed notify shutdown",
    (1, 3): "wait",
    (2, 3): "start",
}
NUMBERS = {}
for bounds, words in COUNTS.items():
    for op in words.split():
        NUMBERS[op] = bounds if isinstance(bounds, tuple) else (bounds, bounds)
WITH_ROUTINE = {
    "soon": (0, 1, 9), "later": (1, 2, 9), "at": (1, 2, 9), "reader": (1, 2, 9), "wait_until": (1, 2, 9),
    "on_done": (1, 2, 2), "off_done": (1, 2, 2), "handler": (0, 1, 1),
}


def program(*steps, kind="async", params=()):
    return {"main": (kind, params, steps), "plain": ("plain", (), ()), "co": ("async", (), ())}


def is_program(routines):
    return Program(routines) is not None


class ProgramCase(Case):
    def assert_step(self, step, **more):
        self.assertTrue(is_program(program(step, **more)), step)

    def assert_no_step(self, step, **more):
        self.assert_place(("main", 1), program(("say",), step, **more))

    def assert_call(self, *call):
        self.assert_step(("do", call))

    def assert_no_call(self, *call):
        self.assert_no_step(("do", call))


class RoutinesTest(ProgramCase):
    def test_no_dict_from_words(self):
        for routines in (*[row for row in STRANGE if row != {}], (), [("main", ("async", (), ()))]):
            self.assert_place((), routines)
        for word in (None, 1, True, 1.5, b"main", ("a",), "", "Main", "mAin", "1a", "_a", "a b", "a-b", "a" * 21,
                     "@a", "\u00e9t\u00e9", "a\n", "a\u0661"):
            self.assert_place((), {"main": ("async", (), ()), word: ("async", (), ())})

    def test_words(self):
        for word in ("a", "a1", "a_", "a" * 20, "b__9"):
            self.assertTrue(is_program({word: ("async", (), ())}))
        self.assertEqual({}, Program({}).routines)

    def test_no_routine(self):
        good = ("async", (), ())
        for wrong in (*STRANGE, (), ("async", ()), ("async", (), (), ()), list(good), (None, (), ()),
                      ("Async", (), ()), (["async"], (), ()), ("async", [], ()), ("async", None, ()),
                      ("async", (), []), ("async", (), None), ("async", (), "x"), ("async", ("A",), ()),
                      ("async", ("_a",), ()), ("async", ("1",), ()), ("async", ("",), ()), ("async", ("a" * 21,), ()),
                      ("async", ("a", "a"), ()), ("async", (1,), ()), ("async", (["a"],), ()), ("async", "a", ())):
            self.assert_place(("other",), {"main": good, "other": wrong})

    def test_params(self):
        for params in (("a",), ("a", "b", "c"), ("aB", "ab"), ("a" * 20,), ("x_1",)):
            self.assertTrue(is_program({"main": ("plain", params, ())}))

    def test_routines_in_ascending_order_of_their_words(self):
        bad_step = ("async", (), (("none",),))
        self.assert_place(("a", 0), {"b": None, "a": bad_step})
        self.assert_place(("a",), {"b": bad_step, "a": None})
        self.assert_place(("a", 0), {"a_b": None, "ab": None, "a": bad_step})
        self.assert_place((), {"a": None, "B": None})

    def test_outside(self):
        good = {"main": ("async", (), ())}
        for wrong in (*[row for row in STRANGE], [(0, "s", 1)]):
            self.assert_place(("outside",), good, outside=wrong)
        row = (3, "s", 1)
        for wrong in (*STRANGE, (), (3, "s"), (3, "s", 1, 1), [3, "s", 1], (-1, "s", 1), (True, "s", 1),
                      (3.0, "s", 1), ("3", "s", 1), (None, "s", 1), (2, "s", 1), (3, "S", 1), (3, "", 1),
                      (3, None, 1), (3, ["s"], 1), (3, "s", "@x"), (3, "s", (1, "@x")), (3, "s", [1]),
                      (3, "s", 1.5), (3, "s", b"x"), (3, "s", ((("@",),),))):
            self.assert_place(("outside", 1), good, outside=(row, wrong, None))
        self.assert_place(("outside", 0), good, outside=((-1, "s", 1),))
        self.assert_place(("main", 0), {"main": ("async", (), (None,))}, outside=None)
        rows = ((0, "s", None), (0, "t", ("a", (True,))), (5, "s", "x@"))
        self.assertEqual(rows, Program(good, outside=rows).outside)
        self.assertEqual((), Program(good).outside)


class StepsTest(ProgramCase):
    def test_no_steps(self):
        for wrong in (*STRANGE, (), (None,), (["say"],), ("none",), ("Say", 1), ("do", ("time",), 1), ["say", 1]):
            self.assert_no_step(wrong)

    def test_number_of_parts(self):
        call = ("time",)
        steps = (("do", call), ("let", "a", call), ("await", "a", call), ("if", call, (), ()), ("while", call, ()),
                 ("each", "a", 1, ()), ("async_each", "a", 1, ()), ("try", (), (), (), ()),
                 ("with", "a", call, ()), ("return", 1))
        for step in steps:
            self.assert_step(step)
            self.assert_no_step(step[:-1])
            self.assert_no_step((*step, ()))
            self.assert_no_step((*step, None))
        self.assert_step(("say",))
        self.assert_step(("say", *range(30)))
        self.assert_step(("raise",))
        self.assert_step(("raise", 1))
        self.assert_no_step(("raise", 1, 2))
        self.assert_step(("while", call, (("break",),)))
        self.assert_place(("main", 0, 2, 0), program(("while", call, (("break", None),))))

    def test_names(self):
        call = ("time",)
        for name in ("a", "A", "aB_1", "Z" * 20):
            self.assert_step(("let", name, call))
        for wrong in (*STRANGE[1:4], b"a", [], (), "", "a" * 21, "_a", "1a", "@a", "a b", "\u00e9"):
            self.assert_no_step(("let", wrong, call))
            self.assert_no_step(("await", wrong, call))
            self.assert_no_step(("with", wrong, call, ()))
            self.assert_no_step(("each", wrong, 1, ()))
            self.assert_no_step(("async_each", wrong, 1, ()))
            self.assert_no_step(("try", (), ((("Odd",), wrong, ()),), (), ()))
        self.assert_step(("await", None, call))
        self.assert_step(("with", None, call, ()))
        self.assert_step(("try", (), ((("Odd",), None, ()),), (), ()))
        self.assert_no_step(("let", None, call))
        self.assert_no_step(("each", None, 1, ()))
        self.assert_no_step(("async_each", None, 1, ()))

    def test_args(self):
        for arg in (None, True, -5, "", "x@y", "@a", "@Aa_1", (), (1, ("@b", None)), "@" + "a" * 20):
            self.assert_step(("say", arg))
            self.assert_step(("return", arg))
            self.assert_step(("each", "a", arg, ()))
            self.assert_call("it", arg)
        for wrong in (1.5, b"x", [], {}, object(), "@", "@1", "@_a", "@a b", "@@a", "@" + "a" * 21, (1, ("@",)),
                      (1, [2]), int, frozenset()):
            self.assert_no_step(("say", 1, wrong))
            self.assert_no_step(("return", wrong))
            self.assert_no_step(("raise", wrong))
            self.assert_no_step(("each", "a", wrong, ()))
            self.assert_no_step(("async_each", "a", wrong, ()))
            self.assert_no_call("it", wrong)

    def test_bodies(self):
        call = ("time",)
        for wrong in (None, 1, "x", [], ["say"], {}, b""):
            self.assert_no_step(("if", call, wrong, ()))
            self.assert_no_step(("if", call, (), wrong))
            self.assert_no_step(("while", call, wrong))
            self.assert_no_step(("each", "a", (), wrong))
            self.assert_no_step(("async_each", "a", (), wrong))
            self.assert_no_step(("with", "a", call, wrong))
            self.assert_no_step(("try", wrong, (), (), ()))
            self.assert_no_step(("try", (), wrong, (), ()))
            self.assert_no_step(("try", (), (), wrong, ()))
            self.assert_no_step(("try", (), (), (), wrong))
            self.assert_no_step(("try", (), ((("Odd",), None, wrong),), (), ()))

    def test_handlers(self):
        for wrong in (*STRANGE, (), ("Odd",), (("Odd",), None), (("Odd",), None, (), ()), [("Odd",), None, ()],
                      ((), None, ()), ("Odd", None, ()), (["Odd"], None, ()), (("Odd", 1), None, ()),
                      (("Odd", "@x"), None, ()), (("",), None, ()), (None, None, ()), (("_O",), None, ())):
            self.assert_no_step(("try", (), (wrong,), (), ()))
            self.assert_no_step(("try", (), ((("Odd",), None, ()), wrong), (), ()))
        for kinds in (("Odd",), ("Exception",), ("BaseException", "odd"), ("StopIteration",)):
            self.assert_step(("try", (), ((kinds, "e", ()),), (), ()))

    def test_break_stands_in_a_loop_of_its_routine(self):
        call, out = ("time",), ("break",)
        self.assert_no_step(out)
        self.assert_place(("main", 0, 2, 0), program(("if", call, (out,), ())))
        for step in (("while", call, (out,)), ("each", "a", (), (out,)), ("async_each", "a", (), (out,)),
                     ("while", call, (("if", call, (out,), (out,)),)),
                     ("while", call, (("try", (out,), ((("Odd",), None, (out,)),), (out,), (out,)),)),
                     ("while", call, (("with", None, call, (out,)),))):
            self.assert_step(step)
        self.assert_place(("main", 1), program(("while", call, ()), out))

    def test_what_stands_in_async_routines_only(self):
        call = ("time",)
        for step in (("await", None, call), ("with", None, call, ()), ("async_each", "a", (), ())):
            self.assert_step(step)
            self.assert_no_step(step, kind="plain")
            self.assert_place(("main", 0, 2, 0), program(("while", call, (step,)), kind="plain"))
        self.assert_step(("each", "a", (), ()), kind="plain")

    def test_places(self):
        bad, call = ("none",), ("time",)
        inner = (("say",), bad, bad)
        self.assert_place(("main", 0, 2, 1), program(("if", call, inner, inner)))
        self.assert_place(("main", 0, 3, 1), program(("if", call, (), inner)))
        self.assert_place(("main", 0, 2, 1), program(("while", call, inner)))
        self.assert_place(("main", 0, 3, 1), program(("each", "a", (), inner)))
        self.assert_place(("main", 0, 3, 1), program(("async_each", "a", (), inner)))
        self.assert_place(("main", 0, 3, 1), program(("with", "a", call, inner)))
        self.assert_place(("main", 0, 1, 1), program(("try", inner, (), inner, inner)))
        handler, good = (("Odd",), None, inner), (("Odd",), None, ())
        self.assert_place(("main", 0, 2, 1, 2, 1), program(("try", (), (good, handler, handler), inner, inner)))
        self.assert_place(("main", 0, 3, 1), program(("try", (), (good,), inner, inner)))
        self.assert_place(("main", 0, 4, 1), program(("try", (), (), (), inner)))
        deep = ("if", call, (("say",), ("while", call, (("try", (), (handler,), (), ()),))), ())
        self.assert_place(("main", 0, 2, 1, 2, 0, 2, 0, 2, 1), program(deep))

    def test_a_step_is_read_ahead_of_its_inner_bodies(self):
        bad, call = ("none",), ("time",)
        self.assert_place(("main", 0), program(("if", call, (bad,), None)))
        self.assert_place(("main", 0), program(("try", (bad,), (), (), None)))
        self.assert_place(("main", 0), program(("if", ("none",), (bad,), ())))
        self.assert_place(("main", 0, 2, 0), program(("if", call, (bad,), ()), bad))
        self.assert_place(("main", 0, 1, 0), program(("try", (bad,), ((("Odd",), None, (bad,)),), (), ())))


class CallsTest(ProgramCase):
    def test_no_calls(self):
        for wrong in (*STRANGE, (), (None,), (["it"], 1), ("none",), ("It", 1), ["time"], ("now",), ("say", 1)):
            self.assert_no_step(("do", wrong))
            self.assert_no_step(("let", "a", wrong))
            self.assert_no_step(("await", None, wrong))
            self.assert_no_step(("if", wrong, (), ()))
            self.assert_no_step(("while", wrong, ()))
            self.assert_no_step(("with", None, wrong, ()))

    def test_numbers_of_args(self):
        for op, (least, most) in NUMBERS.items():
            for many in range(0, 12):
                args = (1,) * many
                if least <= many <= most:
                    self.assert_call(op, *args)
                else:
                    self.assert_no_call(op, *args)

    def test_numbers_of_args_of_ops_with_a_routine(self):
        for op, (at, least, most) in WITH_ROUTINE.items():
            for many in range(0, 12):
                args = [1] * many
                if many > at:
                    args[at] = "plain"
                if least <= many <= most:
                    self.assert_call(op, *args)
                else:
                    self.assert_no_call(op, *args)
        for op, first in (("call", "plain"), ("fault", "Odd")):
            self.assert_no_call(op)
            for many in range(0, 30):
                self.assert_call(op, first, *((1,) * many))

    def test_all_ops_are_tested_here(self):
        from loopyard.allops import all_ops
        from loopyard.arities import ARITIES
        self.assertEqual(set(ARITIES), set(NUMBERS) | set(WITH_ROUTINE) | {"call", "fault"})
        self.assertEqual(set(ARITIES), set(all_ops()) | {"call"})

    def test_routines_of_calls(self):
        for wrong in (None, 1, True, "none", "@a", "", "Plain", ("plain",)):
            self.assert_no_call("call", wrong)
        for word in ("plain", "co", "main"):
            self.assert_call("call", word)
        for op, (at, least, _) in WITH_ROUTINE.items():
            for wrong in (1, True, "none", "@a", "", "co", "main", ("plain",), *((None,) if op != "handler" else ())):
                args = [1] * least
                args[at] = wrong
                self.assert_no_call(op, *args)
        self.assert_call("handler", None)

    def test_what_is_plain_where_a_routine_is_named(self):
        call = ("soon", "zz")
        self.assert_place(("zz",), {"main": ("async", (), (("do", call),)), "zz": ("plain", None, None)})
        self.assert_place(("zz",), {"main": ("async", (), (("do", ("call", "zz")),)), "zz": None})
        for wrong in (None, ("plain", ()), ("plain", (), (), ()), ["plain", (), ()], ("async", (), ()),
                      (["plain"], (), ()), ("Plain", (), ())):
            self.assert_place(("main", 0), {"main": ("async", (), (("do", call),)), "zz": wrong})

    def test_kinds_of_faults(self):
        for kind in ("Odd", "odd", "ValueError", "CancelledError", "SystemExit", "KeyboardInterrupt", "A" * 20):
            self.assert_call("fault", kind, 1)
        for wrong in (None, 1, True, "", "@a", "a b", "_a", "A" * 21, ("Odd",), "Exception", "BaseException",
                      "ExceptionGroup", "BaseExceptionGroup", "GeneratorExit", "StopIteration",
                      "StopAsyncIteration"):
            self.assert_no_call("fault", wrong)


if __name__ == "__main__":
    unittest.main()
