"""What the ops of a program refuse."""

from loopyard.faults import Fault, Thrown
from loopyard.texts import is_whole
from loopyard.things import Coroutine, Future


def need(holds, kind):
    """A fault of this kind unless something holds."""
    if not holds:
        raise Thrown(Fault(kind))


def need_whole(value):
    need(is_whole(value), "TypeError")


def need_whole_or_none(value):
    need(value is None or is_whole(value), "TypeError")


def need_tuple(value):
    need(isinstance(value, tuple), "TypeError")


def need_awaitable(value):
    need(isinstance(value, (Coroutine, Future)), "TypeError")
