"""Ops of sleeping, waiting and timeouts [7]."""

from loopyard.checks import need, need_awaitable, need_tuple, need_whole_or_none
from loopyard.coroutines import new_coroutine
from loopyard.each import Each
from loopyard.futures import lay
from loopyard.gathers import gather
from loopyard.tasks import as_future
from loopyard.timeouts import ENTERED, Timeout
from loopyard.waits import Sleep, Wait, WaitFor


def sleep(loop, delay, result=None):
    return new_coroutine(loop, "sleep", Sleep(delay, result))


def wait(loop, things, timeout=None, until="ALL_COMPLETED"):
    return new_coroutine(loop, "wait", Wait(things, timeout, until))


def wait_for(loop, thing, timeout):
    return new_coroutine(loop, "wait_for", WaitFor(thing, timeout))


def gather_things(loop, things, as_values=False):
    return gather(loop, things, as_values)


def as_completed(loop, things, timeout=None):
    need_tuple(things)
    need_whole_or_none(timeout)
    taken = {}
    for thing in things:
        need_awaitable(thing)
        if thing not in taken:
            taken[thing] = as_future(loop, thing)
    futures = list(taken.values())
    each = Each(futures)
    for future in futures:
        lay(loop, future, each)
    if futures and timeout is not None:
        each.timer = loop.timer_at(loop.now + timeout, each)
    return each


def timeout_in(loop, delay):
    need_whole_or_none(delay)
    if delay is None:
        return Timeout(None)
    return Timeout(loop.now + delay)


def timeout_at(loop, due):
    need_whole_or_none(due)
    return Timeout(due)


def reschedule(loop, timeout, due):
    need(isinstance(timeout, Timeout), "AttributeError")
    need_whole_or_none(due)
    need(timeout.state == ENTERED, "RuntimeError")
    timeout.set_due(loop, due)


def is_expired(loop, timeout):
    need(isinstance(timeout, Timeout), "AttributeError")
    return timeout.is_expired()


WAIT_OPS = {
    "sleep": sleep, "wait": wait, "wait_for": wait_for, "gather": gather_things, "as_completed": as_completed,
    "timeout": timeout_in, "timeout_at": timeout_at, "reschedule": reschedule, "expired": is_expired,
}
