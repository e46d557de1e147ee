"""Ops of futures [4], tasks [5.5 to 5.7, 6] and shields [6.7]."""

from loopyard.checks import need
from loopyard.coroutines import use_up
from loopyard.faults import Fault
from loopyard.futures import (
    ask, ask_fault, cancel, give_fault, give_value, is_done, lay, new_future, see, unlay,
)
from loopyard.machine import OnDone
from loopyard.things import CANCELLED, Coroutine, Future, Task
from loopyard.tasks import as_future, make_task, uncancel


def need_future(value):
    need(isinstance(value, Future), "AttributeError")


def need_task(value):
    need(isinstance(value, Task), "AttributeError")


def make_future(loop):
    return new_future(loop)


def set_result(loop, future, value):
    need_future(future)
    need(not isinstance(future, Task), "RuntimeError")
    give_value(loop, future, value)


def set_exception(loop, future, fault):
    need_future(future)
    need(not isinstance(future, Task), "RuntimeError")
    need(not is_done(future), "InvalidStateError")
    need(isinstance(fault, Fault), "TypeError")
    give_fault(loop, future, fault)


def tell_done(loop, future):
    need_future(future)
    return is_done(future)


def tell_result(loop, future):
    need_future(future)
    return ask(loop, future)


def tell_exception(loop, future):
    need_future(future)
    return ask_fault(loop, future)


def on_done(loop, future, word):
    need_future(future)
    lay(loop, future, OnDone(word))


def off_done(loop, future, word):
    need_future(future)
    many = len(future.laid)
    future.laid = [laid for laid in future.laid if not isinstance(laid, OnDone) or laid.word != word]
    return many - len(future.laid)


def new_task(loop, coroutine, name=None):
    need(isinstance(coroutine, Coroutine), "TypeError")
    need(name is None or isinstance(name, str), "TypeError")
    return make_task(loop, coroutine, name)


def ensure(loop, value):
    return as_future(loop, value)


def tell_current(loop):
    return loop.current


def tell_tasks(loop):
    return tuple(list(loop.undone.values()))


def tell_name(loop, task):
    need_task(task)
    return task.name


def close_coroutine(loop, coroutine):
    need(isinstance(coroutine, Coroutine), "AttributeError")
    use_up(loop, coroutine)


def tell_requests(loop, task):
    need_task(task)
    return task.requests


def take_back(loop, task):
    need_task(task)
    return uncancel(task)


class Shield:
    """The callback of a shield that waits at the inner future."""

    def __init__(self, outer):
        self.outer = outer

    def who(self):
        return "shield"

    def does(self, moment):
        return ("shield", self.outer)

    def fire(self, loop, given):
        outer = self.outer
        if outer.state == CANCELLED:
            see(loop, given)
        elif given.state != CANCELLED:
            see(loop, given)
            if given.fault is None:
                give_value(loop, outer, given.value)
            else:
                give_fault(loop, outer, given.fault)
        else:
            cancel(loop, outer, None)


class Unshield:
    """The callback of a shield that waits at the outer future."""

    def __init__(self, inner, shield):
        self.inner = inner
        self.shield = shield

    def who(self):
        return "shield"

    def does(self, moment):
        return ("unshield", self.inner)

    def fire(self, loop, given):
        if not is_done(self.inner):
            unlay(self.inner, self.shield)


def make_shield(loop, value):
    inner = as_future(loop, value)
    if is_done(inner):
        return inner
    outer = new_future(loop)
    shield = Shield(outer)
    lay(loop, inner, shield)
    lay(loop, outer, Unshield(inner, shield))
    return outer


FUTURE_OPS = {
    "future": make_future, "set_result": set_result, "set_exception": set_exception, "done": tell_done,
    "result": tell_result, "exception": tell_exception, "on_done": on_done, "off_done": off_done,
    "task": new_task, "ensure": ensure, "current": tell_current, "tasks": tell_tasks, "name": tell_name,
    "close": close_coroutine, "cancelling": tell_requests, "uncancel": take_back, "shield": make_shield,
}
