"""The frames of an activation: bodies, and what stands around them [5.3].

A frame is told what happens by its methods: go (nothing held it up), called (a call has given a
value), awaited (what it awaited has), ended (the frame above it has been left). Each answers with
a signal, or with None if the activation goes on by itself. What is thrown out of one of them, or
out of what it called or awaited, leaves the frame with this fault. What a frame has is enough to
tell what it goes on with, for all bodies around it are told, too.
"""

from loopyard.coroutines import awaiting, new_coroutine
from loopyard.each import Each, Turn
from loopyard.faults import Fault, Thrown, is_of_kinds
from loopyard.managers import Manager
from loopyard.signals import BREAK, ENDS, ENTERS, FAULT, LEAVES, NORMAL, RETURN
from loopyard.steps import CALL_AT
from loopyard.texts import value_text

# The bodies of a try that can be carried out.
FIRST = 0
HANDLING = 1
ELSE = 2
LAST = 3

# What a with does.
COMING_IN = 0
INSIDE = 1
GOING_OUT = 2


def say(loop, act, step):
    loop.say([act.value_of(loop, arg) for arg in step[1:]])


def make_call(loop, act, step):
    return act.make_call(loop, step[CALL_AT[step[0]]])


def begin_while(loop, act, step):
    act.frames.append(While(step))


def begin_each(loop, act, step):
    whole = act.value_of(loop, step[2])
    if isinstance(whole, Each):
        act.frames.append(EachTurns(step, whole))
    elif isinstance(whole, tuple) and step[0] == "each":
        act.frames.append(EachPart(step, whole))
    else:
        raise Thrown(Fault("TypeError"))


def begin_try(loop, act, step):
    act.frames.append(Try(step))
    act.frames.append(Body(step[1]))


def break_off(loop, act, step):
    return (LEAVES, (BREAK, None))


def return_value(loop, act, step):
    return (LEAVES, (RETURN, act.value_of(loop, step[1])))


def raise_fault(loop, act, step):
    if len(step) == 2:
        fault = act.value_of(loop, step[1])
        if not isinstance(fault, Fault):
            raise Thrown(Fault("TypeError"))
        raise Thrown(fault)
    if not act.handled:
        raise Thrown(Fault("RuntimeError"))
    raise Thrown(act.handled[-1])


DEEDS = {
    "say": say, "do": make_call, "let": make_call, "await": make_call, "if": make_call, "with": make_call,
    "while": begin_while, "each": begin_each, "async_each": begin_each, "try": begin_try, "break": break_off,
    "return": return_value, "raise": raise_fault,
}


class Body:
    """A tuple of steps, of which the first ones, up to at, are begun."""

    def __init__(self, steps):
        self.steps = steps
        self.at = 0
        self.text = None

    def has(self, moment):
        """Its steps as a value, wherever they stand; the text of them is made once, if at all."""
        if self.text is None:
            self.text = value_text(self.steps)
        return ("body", self.text, self.at)

    def go(self, loop, act):
        if self.at == len(self.steps):
            return (LEAVES, (NORMAL, None))
        step = self.steps[self.at]
        self.at += 1
        deed = DEEDS[step[0]]
        return deed(loop, act, step)

    def called(self, loop, act, value):
        step = self.steps[self.at - 1]
        word = step[0]
        if word == "let":
            act.assign(loop, step[1], value)
        elif word == "await":
            return awaiting(loop, value)
        elif word == "if":
            act.frames.append(Body(step[2] if value else step[3]))
        elif word == "with":
            if not isinstance(value, Manager):
                raise Thrown(Fault("TypeError"))
            act.frames.append(With(step, value))
        return None

    def awaited(self, loop, act, value):
        act.assign(loop, self.steps[self.at - 1][1], value)

    def ended(self, loop, act, how, value):
        if how == NORMAL:
            return None
        return (LEAVES, (how, value))


class While:
    """A while: its call is made again ahead of each time."""

    def __init__(self, step):
        self.step = step

    def has(self, moment):
        return ("while",)

    def go(self, loop, act):
        return act.make_call(loop, self.step[1])

    def called(self, loop, act, value):
        if not value:
            return (LEAVES, (NORMAL, None))
        act.frames.append(Body(self.step[2]))
        return None

    def ended(self, loop, act, how, value):
        if how == NORMAL:
            return None
        return loop_left(how, value)


def loop_left(how, value):
    if how == BREAK:
        return (LEAVES, (NORMAL, None))
    return (LEAVES, (how, value))


class EachPart:
    """An each over the parts of a tuple, of which the first ones, up to at, are begun."""

    def __init__(self, step, parts):
        self.step = step
        self.parts = parts
        self.at = 0

    def has(self, moment):
        return ("each", self.parts, self.at)

    def go(self, loop, act):
        if self.at == len(self.parts):
            return (LEAVES, (NORMAL, None))
        act.assign(loop, self.step[1], self.parts[self.at])
        self.at += 1
        act.frames.append(Body(self.step[3]))
        return None

    def ended(self, loop, act, how, value):
        if how == NORMAL:
            return None
        return loop_left(how, value)


class EachTurns:
    """An each or an async_each over the times of an Each."""

    def __init__(self, step, turns):
        self.step = step
        self.turns = turns

    def has(self, moment):
        return ("each", self.turns)

    def go(self, loop, act):
        turns = self.turns
        if turns.left == 0:
            return (LEAVES, (NORMAL, None))
        turns.left -= 1
        if self.step[0] == "async_each":
            return (ENTERS, Turn(turns, False))
        return self.awaited(loop, act, new_coroutine(loop, "as_completed", Turn(turns, True)))

    def awaited(self, loop, act, value):
        act.assign(loop, self.step[1], value)
        act.frames.append(Body(self.step[3]))

    def ended(self, loop, act, how, value):
        if how == NORMAL:
            return None
        return loop_left(how, value)


class Try:
    """A try: which of its bodies is carried out, and, with the last one, how what came before ended."""

    def __init__(self, step):
        self.step = step
        self.part = FIRST
        self.before = None

    def has(self, moment):
        return ("try", self.part, self.before)

    def ended(self, loop, act, how, value):
        if self.part == LAST:
            return self.last_ended(act, how, value)
        if self.part == HANDLING:
            act.handled.pop()
        elif self.part == FIRST and how == NORMAL:
            self.part = ELSE
            act.frames.append(Body(self.step[3]))
            return None
        elif self.part == FIRST and how == FAULT:
            for kinds, target, steps in self.step[2]:
                if is_of_kinds(value, kinds):
                    return self.begin_handler(loop, act, value, (target, steps))
        return self.begin_last(act, how, value)

    def begin_handler(self, loop, act, fault, handler):
        target, steps = handler
        self.part = HANDLING
        act.handled.append(fault)
        act.assign(loop, target, fault)
        act.frames.append(Body(steps))

    def begin_last(self, act, how, value):
        self.part = LAST
        self.before = (how, value)
        if how == FAULT:
            act.handled.append(value)
        act.frames.append(Body(self.step[4]))

    def last_ended(self, act, how, value):
        if self.before[0] == FAULT:
            act.handled.pop()
        if how == NORMAL:
            return (LEAVES, self.before)
        return (LEAVES, (how, value))


class With:
    """A with: its manager, whether it is entered, inside or left, and how its body ended."""

    def __init__(self, step, manager):
        self.step = step
        self.manager = manager
        self.stage = COMING_IN
        self.end = None

    def has(self, moment):
        return ("with", self.manager, self.stage, self.end)

    def go(self, loop, act):
        signal = self.manager.enter(loop)
        if signal[0] == ENDS:
            return self.awaited(loop, act, signal[1])
        return signal

    def awaited(self, loop, act, value):
        if self.stage == GOING_OUT:
            return (LEAVES, self.end)
        self.stage = INSIDE
        act.assign(loop, self.step[1], self.manager.entered(value))
        act.frames.append(Body(self.step[3]))
        return None

    def ended(self, loop, act, how, value):
        self.stage = GOING_OUT
        self.end = (how, value)
        return self.manager.leave(loop, how, value)
