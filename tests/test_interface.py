"""The interface of DOC.md: names, arguments, kinds of values, errors."""

import ast
import importlib
import inspect
import unittest
from pathlib import Path

from loopyard import errors
from loopyard.errors import BadProgram, BadValue, LoopError, Raised, Stuck, TooLong
from loopyard.program import Program
from loopyard.running import Life, run

INTERFACE = {
    "heaps.py": ("is_heap", "pushed", "popped", "heaped", "ripe", "swept"), "sessions.py": ("Session",),
    "endings.py": ("fate", "is_fate", "sleepers", "out_of_reach"), "alike.py": ("bare", "parted", "pace"),
    "errors.py": ("LoopError", "BadProgram", "BadValue", "TooLong", "Raised", "Stuck"), "program.py": ("Program",),
    "running.py": ("run", "Life"),
}
METHODS = {
    ("running.py", "Life"): "__init__ turn pending", ("program.py", "Program"): "__init__ routines outside",
    ("sessions.py", "Session"): "__init__ create_task run_until_complete run_forever stop close clock pending queued times",
}
PACKAGE = Path(__file__).resolve().parent.parent / "loopyard"
EMPTY = Program({"main": ("async", (), ())})


class InterfaceTest(unittest.TestCase):
    def defined(self, name):
        return {node.name: node for node in ast.parse((PACKAGE / name).read_text()).body
                if isinstance(node, (ast.FunctionDef, ast.ClassDef))}

    def test_everything_is_defined_in_its_file(self):
        for name, listed in INTERFACE.items():
            self.assertLessEqual(set(listed), set(self.defined(name)), name)
            module = importlib.import_module("loopyard." + name[:-3])
            for word in listed:
                self.assertEqual(module.__name__, getattr(module, word).__module__)

    def test_methods_stand_in_their_classes(self):
        for (name, word), listed in METHODS.items():
            methods = {part.name for part in self.defined(name)[word].body if isinstance(part, ast.FunctionDef)}
            self.assertLessEqual(set(listed.split()), methods, word)

    def test_signatures(self):
        self.assertEqual("(routines, *, outside=())", str(inspect.signature(Program)))
        self.assertEqual("(program, call, *, debug=False, slow=100, turns=2000)", str(inspect.signature(run)))
        self.assertEqual("(program, call, *, debug=False, slow=100)", str(inspect.signature(Life)))
        self.assertEqual("(why='')", str(inspect.signature(LoopError)))
        self.assertEqual("(place=())", str(inspect.signature(BadProgram)))
        self.assertEqual("(why='')", str(inspect.signature(BadValue)))
        self.assertEqual("(turns)", str(inspect.signature(TooLong)))
        self.assertEqual("(fault)", str(inspect.signature(Raised)))
        self.assertEqual("(why='')", str(inspect.signature(Stuck)))

    def test_errors_are_below_one_another(self):
        self.assertEqual((ValueError,), LoopError.__bases__)
        for error in (BadProgram, BadValue, TooLong, Raised, Stuck):
            self.assertEqual((LoopError,), error.__bases__)
        self.assertEqual(errors.LoopError, LoopError)

    def test_fields_of_errors(self):
        self.assertEqual("x", LoopError("x").why)
        self.assertEqual("", LoopError().why)
        self.assertEqual("x", BadValue(why="x").why)
        self.assertEqual("", BadValue().why)
        self.assertEqual("x", Stuck("x").why)
        self.assertEqual((), BadProgram().place)
        self.assertEqual(("a", 1), BadProgram(place=("a", 1)).place)
        self.assertEqual(7, TooLong(7).turns)
        self.assertEqual(("fault", "Odd"), Raised(fault=("fault", "Odd")).fault)
        for error in (BadProgram(), TooLong(1), Raised(())):
            self.assertIsInstance(error.why, str)

    def test_fields_of_a_report(self):
        report = run(EMPTY, ("main",))
        self.assertEqual(("value", None), report.outcome)
        self.assertEqual(([], [], 0, 6, []), (report.log, report.notes, report.now, report.turns, report.waiting))

    def test_fields_of_a_life(self):
        life = Life(EMPTY, ("main",))
        self.assertEqual(([], [], 0), (life.log, life.notes, life.turns))
        self.assertEqual(["Task-1"], life.pending())

    def test_arguments_by_name(self):
        program = Program(routines={"main": ("async", (), ())}, outside=())
        self.assertEqual(6, run(program=program, call=("main",), debug=True, slow=1, turns=9).turns)
        self.assertTrue(Life(program=program, call=("main",), debug=True, slow=1).turn())


class ErrorOrderTest(unittest.TestCase):
    WRONG = (None, True, 0, 1.5, "main", b"x", [], {}, (), set(), frozenset(), object(), int, EMPTY, LoopError("x"))

    def place_of(self, call):
        with self.assertRaises(BadProgram) as caught:
            call()
        return caught.exception.place

    def test_no_program(self):
        for wrong in self.WRONG:
            if wrong is EMPTY:
                continue
            self.assertEqual((), self.place_of(lambda: run(wrong, ("none",), debug=3, slow=0, turns=0)))
            self.assertEqual((), self.place_of(lambda: Life(wrong, ("none",), debug=3, slow=0)))

    def test_no_call(self):
        program = Program({"main": ("async", ("a",), ()), "other": ("plain", ("a",), ())})
        calls = [*self.WRONG, ("main",), ("main", 1, 2), ("other", 1), ("none", 1), ("main", "@a"), ("main", 1.5),
                 ("main", [1]), ("main", ("@a",)), ("main", (1, ("x", ("@",)))), (["main"], 1), ["main", 1],
                 (None, 1), ("main", EMPTY)]
        for call in calls:
            self.assertEqual(("call",), self.place_of(lambda: run(program, call, debug=3, slow=0, turns=0)), call)
            self.assertEqual(("call",), self.place_of(lambda: Life(program, call, debug=3, slow=0)), call)

    def test_values_of_a_call(self):
        program = Program({"main": ("async", ("a", "b"), (("say", "@a", "@b"),))})
        for value in (None, True, -3, "", "x@", (), (1, ("a", None))):
            self.assertEqual([(0, "Task-1", value, 1)], run(program, ("main", value, 1)).log)

    def test_bad_values(self):
        for wrong in (None, 1, 0, "x", [], 1.5, object()):
            self.assertRaises(BadValue, run, EMPTY, ("main",), debug=wrong)
            self.assertRaises(BadValue, Life, EMPTY, ("main",), debug=wrong)
        for wrong in (None, True, 0, -1, "x", [], 1.0, object()):
            self.assertRaises(BadValue, run, EMPTY, ("main",), slow=wrong)
            self.assertRaises(BadValue, Life, EMPTY, ("main",), slow=wrong)
            self.assertRaises(BadValue, run, EMPTY, ("main",), turns=wrong)

    def test_keyword_arguments_by_name_only(self):
        self.assertRaises(TypeError, run, EMPTY, ("main",), False)
        self.assertRaises(TypeError, Life, EMPTY, ("main",), False)
        self.assertRaises(TypeError, Program, {}, ())


class NewListsTest(unittest.TestCase):
    def test_same_questions_have_same_answers(self):
        program = Program({"main": ("async", (), (("let", "f", ("future",)), ("say", "@f")))})
        one, two = run(program, ("main",)), run(program, ("main",))
        self.assertEqual(one.log, two.log)
        self.assertIsNot(one.log, two.log)
        one.log.append("x")
        one.notes.append("x")
        self.assertEqual([(0, "Task-1", "Future-1")], run(program, ("main",)).log)

    def test_routines_are_returned_anew(self):
        given = {"main": ("async", (), (("say", 1),))}
        program = Program(given)
        given["other"] = ("plain", (), ())
        given["main"] = None
        self.assertEqual({"main": ("async", (), (("say", 1),))}, program.routines)
        program.routines["more"] = None
        self.assertEqual({"main": ("async", (), (("say", 1),))}, program.routines)
        self.assertEqual([(0, "Task-1", 1)], run(program, ("main",)).log)

    def test_arguments_are_not_changed(self):
        given = {"b": ("plain", (), ()), "a": ("async", (), ())}
        Program(given)
        self.assertEqual(["b", "a"], list(given))

    def test_the_order_of_keys_means_nothing(self):
        a, b = ("async", (), (("do", ("call", "b")),)), ("plain", (), (("say", 1),))
        self.assertEqual(run(Program({"a": a, "b": b}), ("a",)).log, run(Program({"b": b, "a": a}), ("a",)).log)


if __name__ == "__main__":
    unittest.main()
