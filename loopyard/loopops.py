"""Ops of the loop: callbacks, the clock, arrivals, reports [3.2, 3.3, 11.6], and of handles."""

from loopyard.checks import need, need_whole
from loopyard.futures import cancel
from loopyard.machine import Routine
from loopyard.things import CANCELLED, Future, Handle
from loopyard.timeouts import Timeout


def call_soon(loop, word, *told):
    return loop.soon(Routine(word, list(told)))


def call_at(loop, due, word, *told):
    need_whole(due)
    return loop.timer_at(due, Routine(word, list(told)))


def call_later(loop, delay, word, *told):
    need_whole(delay)
    return loop.timer_at(loop.now + delay, Routine(word, list(told)))


def request_cancel(loop, thing, *message):
    """A message stands in a tuple, so that a handle can refuse even one that is None."""
    if isinstance(thing, Handle):
        need(len(message) == 0, "TypeError")
        loop.drop(thing)
        return None
    need(isinstance(thing, Future), "AttributeError")
    if len(message) == 0:
        return cancel(loop, thing, None)
    return cancel(loop, thing, message[0])


def is_cancelled(loop, thing):
    if isinstance(thing, Handle):
        return thing.dropped
    need(isinstance(thing, Future), "AttributeError")
    return thing.state == CANCELLED


def tell_when(loop, thing):
    if isinstance(thing, Timeout):
        return thing.due
    need(isinstance(thing, Handle), "AttributeError")
    need(thing.due is not None, "AttributeError")
    return thing.due


def tell_time(loop):
    return loop.now


def spend(loop, ticks):
    need_whole(ticks)
    need(ticks >= 0, "ValueError")
    loop.now += ticks


def stop(loop):
    loop.stopping = True


def add_reader(loop, source, word, *told):
    need(isinstance(source, str), "TypeError")
    if source in loop.readers:
        loop.drop(loop.readers[source])
    loop.readers[source] = Handle(Routine(word, list(told)))


def remove_reader(loop, source):
    if not isinstance(source, str) or source not in loop.readers:
        return False
    loop.drop(loop.readers.pop(source))
    return True


def read(loop, source):
    need(isinstance(source, str) and loop.has_arrived(source), "BlockingIOError")
    return loop.sources[source].take()


def lay_handler(loop, word):
    loop.reporter = word


LOOP_OPS = {
    "soon": call_soon, "at": call_at, "later": call_later, "cancel": request_cancel, "cancelled": is_cancelled,
    "when": tell_when, "time": tell_time, "spend": spend, "stop": stop, "reader": add_reader,
    "unread": remove_reader, "read": read, "handler": lay_handler,
}
