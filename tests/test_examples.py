"""The examples of the document, with just the answers that stand there."""

import contextlib
import io
import re
import unittest
from pathlib import Path

EXAMPLES = r"""
>>> from loopyard.program import Program
>>> from loopyard.running import run
>>> p = Program({'main': ('async', (), (('do', ('later', 2, 'tell', 1)), ('do', ('soon', 'tell', 2)), ('await', None, ('sleep', 5)), ('say', 'end'))), 'tell': ('plain', ('v',), (('say', '@v'),))})
>>> run(p, ('main',)).log
[(0, None, 2), (2, None, 1), (5, 'Task-1', 'end')]

>>> from loopyard.program import Program
>>> Program({'main': ('async', (), (('say', 1), ('while', ('time',), (('let', 'x', ('now',)),))))})
raises BadProgram(place=('main', 1, 2, 0))

>>> from loopyard.program import Program
>>> from loopyard.running import run
>>> p = Program({'main': ('async', (), (('let', 'c', ('call', 'child', 7)), ('let', 't', ('task', '@c')), ('try', (('await', 'x', ('it', '@t')), ('say', '@x')), ((('ValueError',), 'e', (('say', '@t', '@e'),)),), (), (('say', 'last'),)))), 'child': ('async', ('v',), (('await', None, ('sleep', 3)), ('let', 'f', ('fault', 'ValueError', '@v')), ('raise', '@f')))})
>>> run(p, ('main',)).log
[(3, 'Task-1', 'Task-2', ('fault', 'ValueError', 7)), (3, 'Task-1', 'last')]

>>> from loopyard.alike import pace, parted
>>> from loopyard.program import Program
>>> one = Program({'main': ('async', (), (('while', ('it', 1), (('await', None, ('sleep', 2)), ('say', 'tick'))),))})
>>> two = Program({'main': ('async', (), (('while', ('it', 1), (('await', None, ('sleep', 2)), ('say', 'tick'), ('await', None, ('sleep', 1)), ('await', None, ('sleep', 1)), ('say', 'tick'))),))})
>>> [pace(one, ('main',), 50)[1:], parted(one, ('main',), two, ('main',), 100)]
[(1, 2), None]

>>> from loopyard.heaps import popped, pushed
>>> rows = pushed(pushed([(5, 0)], (5, 1)), (3, 2))
>>> (rows, popped(rows))
([(3, 2), (5, 1), (5, 0)], ((3, 2), [(5, 1), (5, 0)]))

>>> from loopyard.heaps import swept
>>> swept([(1, 0), (2, 1), (1, 2)], (0,), 5)
([(1, 2), (2, 1)], 4)

>>> from loopyard.program import Program
>>> from loopyard.running import run
>>> cb = ('plain', ('x',), (('let', 'v', ('result', '@x')), ('say', 'cb', '@v')))
>>> steps = (('let', 'F', ('future',)), ('do', ('on_done', '@F', 'cb')), ('do', ('set_result', '@F', 7)))
>>> steps = steps + (('say', 'set'), ('await', None, ('sleep', 0)), ('say', 'end'))
>>> run(Program({'cb': cb, 'main': ('async', (), steps)}), ('main',)).log
[(0, 'Task-1', 'set'), (0, None, 'cb', 7), (0, 'Task-1', 'end')]

>>> from loopyard.program import Program
>>> from loopyard.running import run
>>> ends = ('async', (), (('let', 'f', ('fault', 'CancelledError', 'own')), ('raise', '@f')))
>>> told = ((('CancelledError',), 'e', (('let', 'a', ('args', '@e')), ('say', '@a'))),)
>>> ask = ('try', (('do', ('result', '@t')),), told, (), ())
>>> steps = (('let', 'c', ('call', 'ends')), ('let', 't', ('task', '@c')), ('await', None, ('sleep', 0)), ask, ask)
>>> run(Program({'ends': ends, 'main': ('async', (), steps)}), ('main',)).log
[(0, 'Task-1', ('own',)), (0, 'Task-1', ())]

>>> from loopyard.program import Program
>>> from loopyard.running import run
>>> steps = (('let', 'me', ('current',)), ('let', 'a', ('cancel', '@me', 'm')), ('let', 'n', ('uncancel', '@me')))
>>> steps = steps + (('say', '@a', '@n'), ('await', None, ('sleep', 0)), ('say', 'on'))
>>> run(Program({'main': ('async', (), steps)}), ('main',)).log
[(0, 'Task-1', True, 0), (0, 'Task-1', 'on')]

>>> from loopyard.program import Program
>>> from loopyard.running import run
>>> steps = (('let', 'c', ('sleep', 3)), ('let', 'a', ('task', '@c', 'a')), ('let', 'c', ('sleep', 5)), ('let', 'b', ('task', '@c', 'b')))
>>> steps = steps + (('await', 'p', ('wait', ('@b', '@a'), 4)), ('say', '@p'))
>>> run(Program({'main': ('async', (), steps)}), ('main',)).log
[(4, 'Task-1', (('a',), ('b',)))]

>>> from loopyard.program import Program
>>> from loopyard.running import run
>>> fail = (('let', 'f', ('fault', 'Odd', 1)), ('raise', '@f'))
>>> steps = (('let', 'c', ('call', 'fail')), ('let', 'd', ('sleep', 2, 'x')), ('await', 'v', ('gather', ('@d', '@c', '@d'), True)), ('say', '@v'))
>>> run(Program({'main': ('async', (), steps), 'fail': ('async', (), fail)}), ('main',)).log
[(2, 'Task-1', ('x', ('fault', 'Odd', 1), 'x'))]

>>> from loopyard.program import Program
>>> from loopyard.running import run
>>> once = ('try', (('await', 'v', ('it', '@c')), ('say', '@v')), ((('TimeoutError',), 'f', (('say', '@f'),)),), (), ())
>>> steps = (('let', 'a', ('sleep', 9, 'nine')), ('let', 'b', ('sleep', 1, 'one')), ('let', 'e', ('as_completed', ('@a', '@b'), 5)))
>>> run(Program({'main': ('async', (), steps + (('each', 'c', '@e', (once,)),))}), ('main',)).log
[(1, 'Task-1', 'one'), (5, 'Task-1', ('fault', 'TimeoutError'))]

>>> from loopyard.program import Program
>>> from loopyard.running import run
>>> late = (('let', 'x', ('expired', '@t')), ('let', 'w', ('when', '@t')), ('say', 'late', '@x', '@w'))
>>> block = ('with', 't', ('timeout', 50), (('do', ('reschedule', '@t', 3)), ('await', None, ('sleep', 9))))
>>> steps = (('try', (block,), ((('TimeoutError',), None, late),), (), ()),)
>>> run(Program({'main': ('async', (), steps)}), ('main',)).log
[(3, 'Task-1', 'late', True, 3)]

>>> from loopyard.program import Program
>>> from loopyard.running import run
>>> steps = (("let", "a", ("fault", "ValueError", 1)), ("let", "b", ("fault", "KeyError", 2)), ("let", "g", ("group_of", "m", ("@a", "@b"))), ("let", "p", ("split", "@g", "KeyError")), ("say", "@p"))
>>> run(Program({"main": ("async", (), steps)}), ("main",)).log
[(0, 'Task-1', (('fault', 'ExceptionGroup', 'm', (('fault', 'KeyError', 2),)), ('fault', 'ExceptionGroup', 'm', (('fault', 'ValueError', 1),))))]

>>> from loopyard.program import Program
>>> from loopyard.running import run
>>> body = (("let", "c", ("call", "bad")), ("do", ("start", "@g", "@c")), ("let", "f", ("future",)), ("await", None, ("it", "@f")))
>>> steps = (("try", (("with", "g", ("group",), body),), ((("ExceptionGroup",), "e", (("say", "@e"),)),), (), ()),)
>>> bad = (("let", "w", ("fault", "Odd", 5)), ("raise", "@w"))
>>> run(Program({"main": ("async", (), steps), "bad": ("async", (), bad)}), ("main",)).log
[(0, 'Task-1', ('fault', 'ExceptionGroup', 'unhandled errors in a TaskGroup', (('fault', 'Odd', 5),)))]

>>> from loopyard.endings import fate, is_fate
>>> from loopyard.program import Program
>>> count = (("let", "n", ("add", "@n", 1)), ("if", ("same", "@n", 3), (("let", "n", ("it", 0)),), ()), ("await", None, ("sleep", 0)))
>>> program = Program({"main": ("async", (), (("let", "n", ("it", 0)), ("while", ("it", True), count)))})
>>> [fate(program, ("main",), 50), is_fate(program, ("main",), ("round", 4, 6)), is_fate(program, ("main",), ("round", 1, 2))]
[('round', 1, 3), True, False]

>>> from loopyard.endings import out_of_reach, sleepers
>>> from loopyard.program import Program
>>> from loopyard.running import Life
>>> idle = (("let", "f", ("future",)), ("await", None, ("it", "@f")))
>>> steps = (("let", "c", ("call", "idle")), ("do", ("task", "@c", "idle")), ("while", ("it", True), (("await", None, ("sleep", 0)),)))
>>> program = Program({"main": ("async", (), steps), "idle": ("async", (), idle)})
>>> life = Life(program, ("main",))
>>> turns = [life.turn() for turn in range(3)]
>>> [turns, sleepers(program, ("main",), 50), out_of_reach(life)]
[[True, True, True], ['idle'], ['idle']]

>>> from loopyard.program import Program
>>> from loopyard.running import run
>>> w = ('async', ('n',), (('with', None, ('it', '@G'), (('say', 'in', '@n'), ('await', None, ('sleep', 5)))),))
>>> main = ('async', (), (('let', 'G', ('lock',)), ('let', 'c', ('call', 'w', 1)), ('let', 's', ('task', '@c')), ('let', 'c', ('call', 'w', 2)), ('let', 't', ('task', '@c')), ('await', None, ('it', '@t'))))
>>> run(Program({'w': w, 'main': main}), ('main',)).log
[(0, 'Task-2', 'in', 1), (5, 'Task-3', 'in', 2)]

>>> from loopyard.program import Program
>>> from loopyard.running import run
>>> w = ('async', ('n',), (('with', None, ('it', '@G'), (('await', 'v', ('wait_on', '@G')), ('say', '@n', '@v'))),))
>>> main = ('async', (), (('let', 'G', ('condition',)), ('let', 'c', ('call', 'w', 1)), ('let', 's', ('task', '@c')), ('let', 'c', ('call', 'w', 2)), ('let', 't', ('task', '@c')), ('await', None, ('sleep', 1)), ('do', ('cancel', '@s')), ('await', None, ('sleep', 1))))
>>> run(Program({'w': w, 'main': main}), ('main',)).log
[(1, 'Task-3', 2, True)]

>>> from loopyard.program import Program
>>> from loopyard.running import run
>>> full = ((('ValueError',), None, (('say', 'full'),)),)
>>> main = ('async', (), (('let', 'S', ('bounded', 1)), ('await', 'v', ('acquire', '@S')), ('do', ('release', '@S')), ('try', (('do', ('release', '@S')),), full, (), ())))
>>> run(Program({'main': main}), ('main',)).log
[(0, 'Task-1', 'full')]

>>> from loopyard.program import Program
>>> from loopyard.running import run
>>> w = ('async', ('n',), (('await', 'v', ('wait_on', '@G')), ('say', '@n', '@v')))
>>> main = ('async', (), (('let', 'G', ('barrier', 2)), ('let', 'c', ('call', 'w', 1)), ('let', 's', ('task', '@c')), ('let', 'c', ('call', 'w', 2)), ('let', 't', ('task', '@c')), ('await', None, ('sleep', 1))))
>>> run(Program({'w': w, 'main': main}), ('main',)).log
[(0, 'Task-3', 2, 1), (0, 'Task-2', 1, 0)]

>>> from loopyard.program import Program
>>> from loopyard.running import run
>>> putter = (("await", None, ("put", "@Q", "@n")), ("say", "@n"))
>>> one = (("let", "Q", ("queue", 1)), ("do", ("put_nowait", "@Q", "x")), ("let", "c", ("call", "putter", "a")), ("do", ("task", "@c")))
>>> two = (("let", "c", ("call", "putter", "b")), ("do", ("task", "@c")), ("await", None, ("sleep", 0)), ("let", "v", ("get_nowait", "@Q")), ("say", "@v"))
>>> three = (("do", ("put_nowait", "@Q", "z")), ("await", None, ("sleep", 0)), ("await", "v", ("get", "@Q")), ("say", "@v"), ("await", "v", ("get", "@Q")), ("say", "@v"), ("await", "v", ("get", "@Q")), ("say", "@v"))
>>> run(Program({"main": ("async", (), one + two + three), "putter": ("async", ("n",), putter)}), ("main",)).log
[(0, 'Task-1', 'x'), (0, 'Task-1', 'z'), (0, 'Task-3', 'b'), (0, 'Task-1', 'b'), (0, 'Task-2', 'a'), (0, 'Task-1', 'a')]

>>> from loopyard.program import Program
>>> from loopyard.running import run
>>> taken = ((("TypeError",), None, (("say", "no"),)),)
>>> main = (("let", "q", ("priority_queue",)), ("do", ("put_nowait", "@q", 1)), ("try", (("do", ("put_nowait", "@q", "a")),), taken, (), ()), ("let", "n", ("qsize", "@q")), ("let", "v", ("get_nowait", "@q")), ("let", "w", ("get_nowait", "@q")), ("say", "@n", "@v", "@w"))
>>> run(Program({"main": ("async", (), main)}), ("main",)).log
[(0, 'Task-1', 'no'), (0, 'Task-1', 2, 1, 'a')]

>>> from loopyard.program import Program
>>> from loopyard.running import run
>>> chain = (("say", "@n"), ("let", "m", ("add", "@n", 1)), ("do", ("soon", "chain", "@m")))
>>> program = Program({"main": ("async", (), (("do", ("soon", "chain", 0)), ("return", 7))), "chain": ("plain", ("n",), chain)})
>>> report = run(program, ("main",))
>>> [report.outcome, [row[2] for row in report.log], report.turns]
[('value', 7), [0, 1, 2, 3, 4], 6]

>>> from loopyard.program import Program
>>> from loopyard.sessions import Session
>>> routines = {"halter": ("async", (), (("do", ("stop",)),)), "slow": ("async", (), (("await", None, ("sleep", 5)), ("return", "done")))}
>>> session = Session(Program(routines))
>>> name = session.create_task(("halter",))
>>> session.run_until_complete(("slow",))
raises Raised(('fault', 'RuntimeError'))

>>> from loopyard.program import Program
>>> from loopyard.running import run
>>> bad = (("let", "x", ("fault", "Oops", 3)), ("raise", "@x"))
>>> main = (("let", "c", ("call", "bad")), ("do", ("task", "@c")), ("do", ("call", "bad")))
>>> run(Program({"main": ("async", (), main), "bad": ("async", (), bad)}), ("main",)).notes
[(0, 'coroutine was never awaited', 'bad', None), (0, 'Task exception was never retrieved', 'Task-2', ('fault', 'Oops', 3))]
"""


# The field that an error is made with by position.
FIRST_FIELDS = {"Raised": "fault", "TooLong": "turns"}


class ExamplesTest(unittest.TestCase):
    def check(self, example):
        """The last line is what the last call gives, or the error that it raises."""
        lines = example.strip().split("\n")
        *before, last = [line[4:] for line in lines if line.startswith(">>> ")]
        names = {}
        for line in before:
            exec(line, names)
        if not lines[-1].startswith("raises "):
            self.assertEqual(lines[-1], repr(eval(last, names)))
            return
        kind, field, value = re.fullmatch(r"raises (\w+)\((?:(\w+)=)?(.*)\)", lines[-1]).groups()
        with self.assertRaises(ValueError) as caught:
            eval(last, names)
        self.assertEqual(kind, type(caught.exception).__name__)
        self.assertEqual(value, repr(getattr(caught.exception, field or FIRST_FIELDS[kind])))

    def test_examples(self):
        examples = EXAMPLES.strip().split("\n\n")
        self.assertEqual(26, len(examples))
        for example in examples:
            with self.subTest(example):
                self.check(example)


class ReadmeTest(unittest.TestCase):
    def test_what_it_prints(self):
        text = (Path(__file__).resolve().parent.parent / "README.md").read_text()
        blocks = re.findall(r"```python\n(.*?)```", text, re.S)
        printed = io.StringIO()
        names = {}
        with contextlib.redirect_stdout(printed):
            for block in blocks:
                exec(block, names)
        self.assertEqual(re.findall(r"print\(.*\) +# (.*)", "\n".join(blocks)), printed.getvalue().strip().split("\n"))


if __name__ == "__main__":
    unittest.main()
