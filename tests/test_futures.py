"""Futures [4]."""

import unittest

from loopyard.running import Life
from tests.helper import (
    RAISES, SAYS, Case, asynced, catch, do, fault, let, log, main, plain, report, said, say, sleep, start, tell,
    tell_await, wait,
)

F = let("f", "future")
X = let("x", "fault", "Odd", 1)
INVALID = fault("InvalidStateError")
CB = plain(say("cb", "@f"), params=("f",))
ASKS = plain(let("v", "result", "@f"), say("asks", "@v"), params=("f",))
NEVER = "Future exception was never retrieved"


def messages(told):
    return [note[1] for note in told.notes]


class StateTest(Case):
    def test_open_at_first(self):
        self.assert_said([False, False, INVALID, INVALID], F, tell("done", "@f"), tell("cancelled", "@f"),
                         tell("result", "@f"), tell("exception", "@f"))

    def test_a_value(self):
        self.assert_said([None, True, False, 7, None, 7], F, tell("set_result", "@f", 7), tell("done", "@f"),
                         tell("cancelled", "@f"), tell("result", "@f"), tell("exception", "@f"), tell("result", "@f"))
        self.assert_said([None, None, True], F, tell("set_result", "@f", None), tell("result", "@f"),
                         tell("done", "@f"))

    def test_a_fault(self):
        odd = fault("Odd", 1)
        self.assert_said([None, True, False, odd, odd], F, X, tell("set_exception", "@f", "@x"), tell("done", "@f"),
                         tell("cancelled", "@f"), tell("result", "@f"), tell("exception", "@f"))

    def test_a_fault_is_the_same_each_time(self):
        self.assert_said([(True, True)], F, X, do("set_exception", "@f", "@x"), let("a", "exception", "@f"),
                         catch(do("result", "@f"), then=()), let("p", "same", "@a", "@x"),
                         catch(wait("it", "@f"), then=(let("q", "same", "@e", "@x"), say(("@p", "@q")))))

    def test_cancelled(self):
        for call, told in ((("cancel", "@f"), ()), (("cancel", "@f", None), ()), (("cancel", "@f", "m"), ("m",)),
                           (("cancel", "@f", ""), ("",)), (("cancel", "@f", (1,)), ((1,),))):
            cancelled = fault("CancelledError", *told)
            self.assert_said([True, True, True, cancelled, cancelled, cancelled], F, tell(*call), tell("done", "@f"),
                             tell("cancelled", "@f"), tell("result", "@f"), tell("exception", "@f"),
                             tell("result", "@f"))

    def test_the_fault_of_a_cancelled_one_is_made_anew(self):
        self.assert_said([False], F, do("cancel", "@f"), catch(do("result", "@f"), then=(let("a", "it", "@e"),)),
                         catch(do("result", "@f"), then=(tell("same", "@a", "@e"),)))

    def test_a_cancelled_error_as_its_fault(self):
        self.assert_said([True, False, fault("CancelledError", 3), fault("CancelledError", 3)], F,
                         let("x", "fault", "CancelledError", 3), do("set_exception", "@f", "@x"), tell("done", "@f"),
                         tell("cancelled", "@f"), tell("exception", "@f"), tell("result", "@f"))

    def test_a_done_future_stays_as_it_is(self):
        for call in (("set_result", "@f", 1), ("set_exception", "@f", "@x"), ("cancel", "@f")):
            self.assert_said([INVALID, INVALID, INVALID, False, False], F, X, do(*call),
                             tell("set_result", "@f", 2), tell("set_exception", "@f", "@x"),
                             tell("set_exception", "@f", 5), tell("cancel", "@f"), tell("cancel", "@f", "late"))
        self.assert_said([1], F, do("set_result", "@f", 1), do("cancel", "@f"), tell("result", "@f"))
        self.assert_said([fault("CancelledError")], F, do("cancel", "@f"), do("cancel", "@f", "late"),
                         tell("result", "@f"))

    def test_no_fault(self):
        for value in (None, 1, "Odd", ("fault", "Odd")):
            self.assert_said([fault("TypeError"), False], F, tell("set_exception", "@f", value), tell("done", "@f"))

    def test_no_future(self):
        calls = (("set_result", "@v", 1), ("set_exception", "@v", "@x"), ("done", "@v"), ("result", "@v"),
                 ("exception", "@v"), ("on_done", "@v", "cb"), ("off_done", "@v", "cb"), ("cancelled", "@v"),
                 ("cancel", "@v"))
        for call in calls:
            for value in (None, 1, "x", ("a",)):
                self.assert_fault("AttributeError", *call, before=(X, let("v", "it", value)), cb=CB)
            for maker in (("lock",), ("fault", "Odd"), ("timeout", 1), ("queue",)):
                self.assert_fault("AttributeError", *call, before=(X, let("v", *maker)), cb=CB)


class CallbacksTest(Case):
    def test_called_in_the_next_turn_in_their_order(self):
        self.assertEqual(
            [(0, "Task-1", None), (0, "Task-1", "set"), (0, None, "cb", "Future-1"), (0, None, "asks", 7),
             (0, None, "cb", "Future-1"), (0, "Task-1", "end")],
            log(F, tell("on_done", "@f", "cb"), do("on_done", "@f", "asks"), do("on_done", "@f", "cb"),
                do("set_result", "@f", 7), say("set"), sleep(0), say("end"), cb=CB, asks=ASKS))

    def test_laid_to_one_that_is_done(self):
        for call in (("set_result", "@f", 1), ("cancel", "@f")):
            self.assert_said(["on", ("cb", "Future-1"), "end"], F, do(*call), do("on_done", "@f", "cb"), say("on"),
                             sleep(0), say("end"), cb=CB)

    def test_all_come_when_it_is_cancelled_or_gets_a_fault(self):
        for call in (("cancel", "@f"), ("set_exception", "@f", "@x"), ("set_result", "@f", 1)):
            self.assert_said([("cb", "Future-1")] * 2, F, X, do("on_done", "@f", "cb"), do("on_done", "@f", "cb"),
                             do(*call), sleep(0), cb=CB)

    def test_it_forgets_them(self):
        self.assert_said([("cb", "Future-1"), 0], F, do("on_done", "@f", "cb"), do("set_result", "@f", 1), sleep(0),
                         tell("off_done", "@f", "cb"), cb=CB)

    def test_off_done(self):
        self.assert_said([0, 2, 0, ("asks", 1)], F, tell("off_done", "@f", "cb"), do("on_done", "@f", "cb"),
                         do("on_done", "@f", "asks"), do("on_done", "@f", "cb"), tell("off_done", "@f", "cb"),
                         tell("off_done", "@f", "cb"), do("set_result", "@f", 1), sleep(0), cb=CB, asks=ASKS)

    def test_what_is_ready_already_is_called(self):
        self.assert_said([0, ("cb", "Future-1")], F, do("on_done", "@f", "cb"), do("set_result", "@f", 1),
                         tell("off_done", "@f", "cb"), sleep(0), cb=CB)

    def test_who_awaits_stands_between_them(self):
        rows = log(let("F", "future"), do("on_done", "@F", "cb"), start("t", "call", "waits"), sleep(0),
                   do("on_done", "@F", "asks"), do("set_result", "@F", 1), sleep(0), cb=CB, asks=ASKS,
                   waits=asynced(("await", "v", ("it", "@F")), say("woken", "@v")))
        self.assertEqual(["cb", "woken", "asks"], [row[2] for row in rows])

    def test_the_wrong_number_of_params(self):
        told = report(F, tell("on_done", "@f", "cb"), do("set_result", "@f", 1), sleep(0), cb=plain())
        self.assertEqual([None], [row[2] for row in told.log])
        self.assertEqual([(0, "Exception in callback cb", "cb", fault("TypeError"))], told.notes)

    def test_of_a_task(self):
        self.assertEqual([("cb", "Task-2")], said(start("t", "sleep", 0), do("on_done", "@t", "cb"), sleep(1), cb=CB))


class SeenTest(Case):
    def unseen(self, *steps, **more):
        return messages(report(F, X, do("set_exception", "@f", "@x"), *steps, **more)) == [NEVER]

    def test_unseen_until_it_is_asked_for(self):
        self.assertTrue(self.unseen())
        self.assertTrue(self.unseen(do("done", "@f"), do("cancelled", "@f"), do("on_done", "@f", "cb"), sleep(0),
                                    cb=CB))
        for call in (("result", "@f"), ("exception", "@f"), ("cancel", "@f")):
            self.assertFalse(self.unseen(tell(*call)), call)
        self.assertFalse(self.unseen(tell_await("it", "@f")))
        self.assertFalse(self.unseen(do("on_done", "@f", "asks"), sleep(0), asks=plain(do("exception", "@f"),
                                                                                      params=("f",))))

    def test_who_awaits_has_asked(self):
        self.assertEqual([], messages(report(let("F", "future"), X, start("t", "call", "waits"), sleep(0),
                                             do("set_exception", "@F", "@x"), sleep(0),
                                             waits=asynced(tell_await("it", "@F")))))

    def test_the_note(self):
        told = report(F, X, do("set_exception", "@f", "@x"), sleep(2))
        self.assertEqual([(2, NEVER, "Future-1", fault("Odd", 1))], told.notes)

    def test_of_a_task(self):
        told = report(start("t", "call", "raises", 3), sleep(1), raises=RAISES)
        self.assertEqual([(1, "Task exception was never retrieved", "Task-2", fault("Odd", 3))], told.notes)
        for call in (("result", "@t"), ("exception", "@t"), ("cancel", "@t")):
            self.assertEqual([], report(start("t", "call", "raises", 3), sleep(1), tell(*call), raises=RAISES).notes)


class AwaitTest(Case):
    def test_one_that_is_done_goes_on_in_the_same_step(self):
        life = Life(main(F, do("set_result", "@f", 5), ("await", "v", ("it", "@f")), say("@v"),
                         ("await", "v", ("it", "@f")), say("@v")), ("main",))
        life.turn()
        self.assertEqual([(0, "Task-1", 5), (0, "Task-1", 5)], life.log)
        self.assert_said([fault("Odd", 1)], F, X, do("set_exception", "@f", "@x"), tell_await("it", "@f"))
        self.assert_said([fault("CancelledError", "m")], F, do("cancel", "@f", "m"), tell_await("it", "@f"))

    def test_an_open_one_suspends(self):
        for call, expected in ((("set_result", "@f", 5), 5), (("set_exception", "@f", "@x"), fault("Odd", 1)),
                               (("cancel", "@f", "m"), fault("CancelledError", "m"))):
            self.assert_said(["set", expected], F, X, do("soon", "sets", "@f", "@x"), tell_await("it", "@f"),
                             sets=plain(do(*call), say("set"), params=("f", "x")))

    def test_several_wait(self):
        rows = log(let("F", "future"), *[start("t", "call", "waits", number) for number in range(3)], sleep(1),
                   do("set_result", "@F", "v"), sleep(1),
                   waits=asynced(("await", "v", ("it", "@F")), say("@n", "@v"), params=("n",)))
        self.assertEqual([(1, "Task-2", 0, "v"), (1, "Task-3", 1, "v"), (1, "Task-4", 2, "v")], rows)

    def test_what_cannot_be_awaited(self):
        for value in (None, 1, "x", ()):
            self.assert_said([fault("TypeError")], tell_await("it", value))
        for call in (("lock",), ("fault", "Odd"), ("soon", "tell", 1), ("as_completed", ()), ("timeout", 1)):
            self.assertEqual(fault("TypeError"), said(tell_await(*call), tell=SAYS)[0])


if __name__ == "__main__":
    unittest.main()
