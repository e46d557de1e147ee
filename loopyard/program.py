"""Programs: routines of steps, and what arrives from outside [5.1, 5.9, 5.10]."""

from loopyard.errors import BadProgram
from loopyard.steps import first_wrong_step, used_ops
from loopyard.texts import is_param, is_plain_value, is_whole, is_word


def is_routine(routine):
    """Whether this is a routine, without regard to the steps in its body."""
    if not isinstance(routine, tuple) or len(routine) != 3:
        return False
    kind, params, body = routine
    if not isinstance(kind, str) or kind not in ("async", "plain") or not isinstance(body, tuple):
        return False
    if not isinstance(params, tuple) or not all([is_param(name) for name in params]):
        return False
    return len(params) == len({name: True for name in params})


def check_routines(routines):
    if not isinstance(routines, dict) or not all([is_word(word) for word in routines]):
        raise BadProgram(())
    for word in sorted(routines):
        if not is_routine(routines[word]):
            raise BadProgram((word,))
        place = first_wrong_step(word, routines[word], routines)
        if place is not None:
            raise BadProgram(place)


def is_arrival(row, earliest):
    if not isinstance(row, tuple) or len(row) != 3 or not is_whole(row[0]):
        return False
    return row[0] >= earliest and is_word(row[1]) and is_plain_value(row[2])


def check_outside(outside):
    if not isinstance(outside, tuple):
        raise BadProgram(("outside",))
    earliest = 0
    for at, row in enumerate(outside):
        if not is_arrival(row, earliest):
            raise BadProgram(("outside", at))
        earliest = row[0]


def is_call_of(program, call):
    """Whether this is a call of an async routine of the program with as many values as it has params."""
    if not isinstance(call, tuple) or len(call) == 0 or not isinstance(call[0], str):
        return False
    routine = program.routines.get(call[0], None)
    if routine is None or routine[0] != "async" or len(routine[1]) != len(call) - 1:
        return False
    return is_plain_value(call[1:])


def check_program(program):
    if not isinstance(program, Program):
        raise BadProgram(())


def check_call(program, call):
    if not is_call_of(program, call):
        raise BadProgram(("call",))


def check_life(program, call):
    """Errors of the first two arguments of all that carries out a program [11.9]."""
    check_program(program)
    check_call(program, call)


class Program:
    """Routines of steps, and what arrives from outside while they are carried out."""

    def __init__(self, routines, *, outside=()):
        check_routines(routines)
        check_outside(outside)
        self._routines = {word: routines[word] for word in sorted(routines)}
        self._arrivals = outside
        self.ops = used_ops(routines)

    @property
    def routines(self):
        return {word: self._routines[word] for word in self._routines}

    @property
    def outside(self):
        return self._arrivals
