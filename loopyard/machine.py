"""The machine that carries out a stack of carriers, without recursion however deep it is."""

from loopyard.activation import start_routine
from loopyard.faults import Thrown
from loopyard.futures import is_done, outcome
from loopyard.signals import ENDS, ENTERS, FAILS, THREW, TOOK, WAITS

BEGIN = 2


def signal_of(loop, carrier, deed, worth):
    """What a carrier does when it is begun, or when what it waited for has ended so."""
    try:
        if deed == BEGIN:
            return carrier.start(loop)
        if deed == TOOK:
            return carrier.took(loop, worth)
        return carrier.threw(loop, worth)
    except Thrown as e:
        return (FAILS, e.fault)


def carry(loop, stack, deed, worth):
    """Go on until the stack has ended (ENDS, FAILS), or its task has to wait (WAITS, PAUSES)."""
    while stack:
        signal, found = signal_of(loop, stack[-1], deed, worth)
        if signal == ENTERS:
            stack.append(found)
            deed, worth = BEGIN, None
        elif signal == WAITS and is_done(found):
            deed, worth = outcome(loop, found)
        elif signal == ENDS:
            stack.pop()
            deed, worth = TOOK, found
        elif signal == FAILS:
            stack.pop()
            deed, worth = THREW, found
        else:
            return (signal, found)
    if deed == THREW:
        return (FAILS, worth)
    return (ENDS, worth)


def run_plain(loop, word, told):
    """What a plain routine returns; the fault that comes out of it is thrown."""
    signal, worth = carry(loop, [start_routine(loop, word, told)], BEGIN, None)
    if signal == FAILS:
        raise Thrown(worth)
    return worth


class Routine:
    """A callback that carries out a plain routine; laid to a future it gets this as its only arg."""

    def __init__(self, word, told):
        self.word = word
        self.told = told

    def who(self):
        return self.word

    def does(self, moment):
        return ("call", moment.common, self.word, *self.told)

    def fire(self, loop, given):
        run_plain(loop, self.word, self.told)


class OnDone:
    """A callback that a program has laid to a future: a plain routine gets the future."""

    def __init__(self, word):
        self.word = word

    def who(self):
        return self.word

    def does(self, moment):
        return ("call", moment.common, self.word)

    def fire(self, loop, given):
        run_plain(loop, self.word, [given])
