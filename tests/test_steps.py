"""Steps of routines [5.3]."""

import unittest

from tests.helper import Case, asynced, catch, do, fault, let, plain, said, say, sleep, tell, tell_await

ODD = (let("x", "fault", "Odd", 1), ("raise", "@x"))


def attempt(body, *handlers, other=(), last=()):
    return ("try", tuple(body), handlers, tuple(other), tuple(last))


def on(kinds, *steps, name="e"):
    return (kinds if isinstance(kinds, tuple) else (kinds,), name, steps)


class LoopsTest(Case):
    def test_if(self):
        self.assert_said(["yes", "no"], ("if", ("it", 1), (say("yes"),), (say("never"),)),
                         ("if", ("it", 0), (say("never"),), (say("no"),)))
        self.assert_said(["end"], ("if", ("it", 0), (say("never"),), ()), ("if", ("it", 1), (), ()), say("end"))

    def test_while(self):
        self.assert_said([0, 1, 2, "end"], let("n", "it", 0),
                         ("while", ("less", "@n", 3), (say("@n"), let("n", "add", "@n", 1))), say("end"))
        self.assert_said(["end"], ("while", ("it", ()), (say("never"),)), say("end"))

    def test_while_asks_a_routine_each_time(self):
        self.assert_said([1, "in", 2, "in", 3, "end"], let("N", "it", 0), ("while", ("call", "asks"), (say("in"),)),
                         say("end"), asks=plain(let("N", "add", "@N", 1), say("@N"), let("b", "less", "@N", 3),
                                                ("return", "@b")))

    def test_a_fault_in_the_call_of_a_while(self):
        self.assert_said([fault("NameError"), "end"], catch(("while", ("it", "@nope"), ())), say("end"))
        self.assert_said([fault("Odd", 1)], catch(("while", ("call", "odd"), ())), odd=plain(*ODD))

    def test_break(self):
        stop = ("if", ("same", "@n", 2), (("break",),), ())
        step = (let("n", "add", "@n", 1), stop, say("@n"))
        self.assert_said([1, "end"], let("n", "it", 0), ("while", ("it", 1), step), say("end"))
        self.assert_said([1, "end"], ("each", "n", (1, 2, 3), (stop, say("@n"))), say("end"))
        self.assert_said([1, 1, "end"], ("each", "m", (1, 2), (("each", "n", (1, 2, 3), (stop, say("@n"))),)),
                         say("end"))

    def test_each(self):
        self.assert_said([1, ("a",), None, "end", None], ("each", "v", (1, ("a",), None), (say("@v"),)), say("end"),
                         say("@v"))
        self.assert_said(["end"], ("each", "v", (), (say("never"),)), say("end"))
        self.assert_said([1, 2], let("t", "it", (1, 2)), ("each", "v", "@t", (let("t", "it", ()), say("@v"))))
        self.assert_said([1, 2, 2], ("each", "V", (1, 2), (do("call", "tell"),)), do("call", "tell"),
                         tell=plain(say("@V")))

    def test_each_of_what_is_no_tuple(self):
        for value in (None, 1, "ab", True):
            self.assert_said([fault("TypeError")], catch(("each", "v", value, ())))
            self.assert_said([fault("TypeError")], catch(("async_each", "v", value, ())))
        self.assert_said([fault("TypeError")], catch(("async_each", "v", (1, 2), ())))
        for maker in (("future",), ("queue",), ("fault", "Odd")):
            self.assert_said([fault("TypeError")], let("x", *maker), catch(("each", "v", "@x", ())))
            self.assert_said([fault("TypeError")], let("x", *maker), catch(("async_each", "v", "@x", ())))


class TryTest(Case):
    def test_the_first_handler_that_takes_it(self):
        self.assert_said([("second", fault("Odd", 1)), "end"],
                         attempt(ODD, on("Other", say("first")), on(("Some", "Odd"), say("second", "@e")),
                                 on("Exception", say("third"))), say("end"))
        self.assert_said(["first"], attempt(ODD, on("Exception", say("first")), on("Odd", say("second"))))

    def test_a_handler_without_a_name(self):
        self.assert_said([fault("NameError")], attempt(ODD, on("Odd", tell("it", "@e"), name=None)))

    def test_the_name_keeps_its_value(self):
        self.assert_said([fault("Odd", 1)], attempt(ODD, on("Odd")), say("@e"))

    def test_no_handler(self):
        self.assert_said(["last", fault("Odd", 1)],
                         catch(attempt(ODD, on("Other", say("never")), last=[say("last")]), say("never")))

    def test_steps_behind_a_fault(self):
        self.assert_said(["a", "h"], attempt([say("a"), *ODD, say("never")], on("Odd", say("h"))))

    def test_else(self):
        self.assert_said(["a", "else", "last", "end"], attempt([say("a")], on("Odd", say("never")),
                                                               other=[say("else")], last=[say("last")]), say("end"))
        self.assert_said(["h"], attempt(ODD, on("Odd", say("h")), other=[say("never")]))
        self.assert_said([], ("each", "x", (1,), (attempt([("break",)], other=[say("never")]),)))
        self.assert_said(["r"], let("r", "call", "sub"), say("@r"),
                         sub=plain(attempt([("return", "r")], other=[say("never")])))

    def test_handlers_do_not_take_what_else_or_a_handler_raises(self):
        self.assert_said(["last", fault("Odd", 1)],
                         catch(attempt([], on("Odd", say("never")), other=ODD, last=[say("last")])))
        self.assert_said(["last", fault("Odd", 1)],
                         catch(attempt([tell("it", 1)][:0] + [("raise", 1)],
                                       on("TypeError", *ODD), on("Odd", say("never")), last=[say("last")])))

    def test_last_is_carried_out_however_it_ends(self):
        self.assert_said(["last", "r"], let("r", "call", "sub"), say("@r"),
                         sub=plain(attempt([("return", "r")], last=[say("last")]), say("never")))
        self.assert_said(["last", "end"], ("while", ("it", 1), (attempt([("break",)], last=[say("last")]),)),
                         say("end"))
        self.assert_said(["h", "last", 5], let("r", "call", "sub"), say("@r"),
                         sub=plain(attempt(ODD, on("Odd", say("h"), ("return", 5)), last=[say("last")])))

    def test_the_end_of_last_takes_the_place_of_what_came_before(self):
        new = [let("y", "fault", "New"), ("raise", "@y")]
        for last, expected in (([("return", "new")], "new"), (new, fault("New"))):
            for body in (ODD, [("return", "old")], []):
                self.assert_said([expected], tell("call", "sub"), sub=plain(attempt(body, last=last), say("never")))
        self.assert_said(["end"], ("while", ("it", 1), (attempt(ODD, last=[("break",)]),)), say("end"))
        self.assert_said(["end"], ("each", "x", (1, 2), (attempt([("return", 1)], last=[("break",)]),)), say("end"))

    def test_return_goes_through_all_lasts(self):
        self.assert_said([1, 2, "r"], let("r", "call", "sub"), say("@r"),
                         sub=plain(attempt([("while", ("it", 1), (attempt([("return", "r")], last=[say(1)]),))],
                                           last=[say(2)])))

    def test_awaiting_in_last_and_in_a_handler(self):
        self.assert_said(["h", "last", fault("Odd", 1)],
                         catch(attempt(ODD, on("Odd", sleep(1), say("h"), ("raise",)),
                                       last=[sleep(1), say("last")])))
        self.assert_said(["last", 5], tell_await("call", "sub"),
                         sub=asynced(attempt([("return", 5)], last=[sleep(2), say("last")])))


class RaiseTest(Case):
    def test_raise(self):
        self.assert_said([fault("Odd", 1)], catch(*ODD, say("never")))
        for value in (None, 1, "Odd", ()):
            self.assert_said([fault("TypeError")], catch(("raise", value)))
        self.assert_said([fault("TypeError")], let("x", "future"), catch(("raise", "@x")))

    def test_raise_again(self):
        self.assert_said([(True,)], *ODD[:1], catch(
            catch(("raise", "@x"), then=(("raise",),)), then=(let("s", "same", "@x", "@e"), say(("@s",)))))

    def test_without_a_fault(self):
        self.assert_said([fault("RuntimeError")], catch(("raise",)))
        self.assert_said([fault("RuntimeError")], catch(*ODD, then=()), catch(("raise",)))
        self.assert_said([fault("RuntimeError")], catch(attempt([], last=[("raise",)])))
        self.assert_said([fault("RuntimeError")], catch(attempt([], on("Odd"), other=[("raise",)])))
        self.assert_said([fault("RuntimeError")], catch(attempt(ODD, on("Odd"), last=[("raise",)])))
        self.assert_said([fault("RuntimeError"), 1], catch(("each", "x", (1,), (
            attempt([("break",)], last=[("raise",)]),))), say(1))

    def test_of_the_innermost(self):
        other = (let("y", "fault", "Other"), ("raise", "@y"))
        inner = catch(*other, then=(catch(("raise",)),))
        self.assert_said([fault("Other"), fault("Odd", 1)], catch(attempt(ODD, on("Odd", inner, ("raise",)))))

    def test_in_a_last_body_behind_a_fault(self):
        self.assert_said([fault("Odd", 1), fault("Odd", 1)],
                         catch(attempt(ODD, last=[catch(("raise",)), ("raise",)])))
        self.assert_said([fault("Other"), fault("Other")], catch(
            attempt(ODD, on("Odd", let("y", "fault", "Other"), ("raise", "@y")), last=[catch(("raise",))])))

    def test_in_this_call_of_the_routine(self):
        self.assert_said([fault("RuntimeError"), fault("Odd", 1)],
                         catch(attempt(ODD, on("Odd", tell("call", "again"), ("raise",)))),
                         again=plain(("raise",)))


class ReturnTest(Case):
    def test_return(self):
        self.assert_said([None, (1, 2), None], tell("call", "a"), tell("call", "b"), tell("call", "c"), a=plain(),
                         b=plain(let("x", "it", 2), ("return", (1, "@x")), say("never")),
                         c=plain(("return", None)))
        self.assert_said([None, 7], tell_await("call", "a"), tell_await("call", "b"), a=asynced(),
                         b=asynced(("return", 7)))

    def test_return_out_of_loops_and_bodies(self):
        body = (("while", ("it", 1), (("each", "x", (1, 2), (("if", ("it", 1), (("return", "@x"),), ()),)),)),)
        self.assert_said([1], tell("call", "a"), a=plain(*body, say("never")))


class WithTest(Case):
    def test_what_cannot_be_entered(self):
        for value in (None, 1, "x", ()):
            self.assert_said([fault("TypeError")], catch(("with", "w", ("it", value), (say("never"),))))
        for maker in (("event",), ("queue",), ("future",), ("sleep", 1), ("as_completed", ()), ("fault", "Odd")):
            self.assertEqual(fault("TypeError"), said(catch(("with", "w", maker, (say("never"),))))[0])

    def test_what_can_be_entered(self):
        for maker, entered in ((("timeout", 5), "Timeout-1"), (("timeout_at", 5), "Timeout-1"),
                               (("group",), "TaskGroup-1"), (("lock",), None), (("condition",), None),
                               (("semaphore",), None), (("bounded",), None), (("barrier", 1), 0)):
            self.assert_said([entered, "end"], ("with", "w", maker, (say("@w"),)), say("end"))
            self.assert_said(["in", fault("NameError")], ("with", None, maker, (say("in"),)), tell("it", "@w"))

    def test_a_fault_in_its_call(self):
        self.assert_said([fault("NameError")], catch(("with", "w", ("it", "@nope"), (say("never"),))))

    def test_how_a_block_ends(self):
        for maker in (("timeout", 5), ("group",), ("lock",), ("semaphore",), ("barrier", 1), ("condition",)):
            self.assert_said([3], tell_await("call", "a"), a=asynced(("with", None, maker, (("return", 3),))))
            self.assert_said(["end"], ("while", ("it", 1), (("with", None, maker, (("break",),)),)), say("end"))
            if maker != ("group",):
                self.assert_said([fault("Odd", 1)], catch(("with", None, maker, ODD)))


if __name__ == "__main__":
    unittest.main()
