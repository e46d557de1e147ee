"""Making, beginning and awaiting coroutines [5.5, 5.6]."""

from loopyard.faults import Fault, Thrown
from loopyard.signals import ENTERS, WAITS
from loopyard.things import Coroutine, Future


def new_coroutine(loop, word, carrier):
    coroutine = Coroutine(loop.next_serial(), word, carrier)
    loop.fresh[coroutine.serial] = coroutine
    return coroutine


def use_up(loop, coroutine):
    """It counts as awaited from now on."""
    coroutine.fresh = False
    loop.fresh.pop(coroutine.serial, None)


def awaiting(loop, value):
    """The signal by which a value is awaited."""
    if isinstance(value, Future):
        return (WAITS, value)
    if not isinstance(value, Coroutine):
        raise Thrown(Fault("TypeError"))
    if not value.fresh:
        raise Thrown(Fault("RuntimeError"))
    use_up(loop, value)
    return (ENTERS, value.carrier)
