"""Activations: calls of routines that are carried out [5.2, 5.3, 5.5]."""

from loopyard.coroutines import new_coroutine
from loopyard.faults import Fault, Thrown
from loopyard.frames import Body
from loopyard.moments import pairs_of
from loopyard.signals import ENDS, ENTERS, FAILS, FAULT, LEAVES

# What the innermost frame is told.
GO = 0
CALLED = 1
AWAITED = 2
ENDED = 3
FAILED = 4


def is_shared(name):
    return "A" <= name[0] <= "Z"


class Activation:
    """A call of a routine: its variables, the faults that are handled in it, and its frames."""

    def __init__(self, word, variables, body):
        self.word = word
        self.variables = variables
        self.handled = []
        self.frames = [Body(body)]
        self.calling = False

    def has(self, moment):
        frames = tuple([frame.has(moment) for frame in self.frames])
        return (self.word, moment.common, pairs_of(self.variables), tuple(self.handled), frames)

    def value_of(self, loop, arg):
        if isinstance(arg, tuple):
            return tuple([self.value_of(loop, part) for part in arg])
        if not isinstance(arg, str) or not arg.startswith("@"):
            return arg
        name = arg[1:]
        held = loop.shared if is_shared(name) else self.variables
        if name not in held:
            raise Thrown(Fault("NameError"))
        return held[name]

    def assign(self, loop, name, value):
        """A name of None is no variable."""
        if name is None:
            return
        held = loop.shared if is_shared(name) else self.variables
        held[name] = value

    def make_call(self, loop, call):
        """Tells the innermost frame the value of a call, or first enters the routine that is called."""
        told = [self.value_of(loop, arg) for arg in call[1:]]
        if call[0] != "call":
            deed = loop.ops[call[0]]
            return self.frames[-1].called(loop, self, deed(loop, *told))
        started = start_routine(loop, told[0], told[1:])
        if loop.table[told[0]][0] == "plain":
            self.calling = True
            return (ENTERS, started)
        return self.frames[-1].called(loop, self, new_coroutine(loop, told[0], started))

    def start(self, loop):
        return self.run(loop, GO, None)

    def took(self, loop, value):
        if self.calling:
            self.calling = False
            return self.run(loop, CALLED, value)
        return self.run(loop, AWAITED, value)

    def threw(self, loop, fault):
        self.calling = False
        return self.run(loop, FAILED, fault)

    def run(self, loop, news, worth):
        """Go on until there is a signal for the machine."""
        while True:
            signal = self.answer(loop, news, worth)
            if signal is None:
                news, worth = GO, None
            elif signal[0] != LEAVES:
                return signal
            else:
                self.frames.pop()
                if not self.frames:
                    return self.last_signal(signal[1])
                news, worth = ENDED, signal[1]

    def answer(self, loop, news, worth):
        """What the innermost frame answers; a fault out of it, or of what it waited for, leaves it."""
        frame = self.frames[-1]
        try:
            if news == GO:
                return frame.go(loop, self)
            if news == CALLED:
                return frame.called(loop, self, worth)
            if news == AWAITED:
                return frame.awaited(loop, self, worth)
            if news == ENDED:
                return frame.ended(loop, self, worth[0], worth[1])
        except Thrown as e:
            return (LEAVES, (FAULT, e.fault))
        return (LEAVES, (FAULT, worth))

    def last_signal(self, end):
        how, value = end
        if how == FAULT:
            return (FAILS, value)
        return (ENDS, value)


def start_routine(loop, word, told):
    """A new activation of a routine; a fault TypeError if these are not as many args as params."""
    params, body = loop.table[word][1], loop.table[word][2]
    if len(params) != len(told):
        raise Thrown(Fault("TypeError"))
    return Activation(word, {name: value for name, value in zip(params, told)}, body)
