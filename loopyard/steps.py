"""Which steps are none, and where the first of them stands [5.3, 5.10]."""

from loopyard.arities import ARITIES, ROUTINE_AT
from loopyard.texts import is_arg, is_name

BARRED = (
    "Exception", "BaseException", "ExceptionGroup", "BaseExceptionGroup", "GeneratorExit", "StopIteration",
    "StopAsyncIteration",
)
FOR_ASYNC = ("await", "with", "async_each")
LOOPS = ("while", "each", "async_each")

# The parts of a step behind its word. A say may have any number of args.
SHAPES = {
    "do": ("call",), "let": ("name", "call"), "await": ("target", "call"), "if": ("call", "body", "body"),
    "while": ("call", "body"), "break": (), "each": ("name", "arg", "body"),
    "async_each": ("name", "arg", "body"), "try": ("body", "handlers", "body", "body"),
    "with": ("target", "call", "body"), "return": ("arg",),
}

# At which place of a step its call stands.
CALL_AT = {"do": 1, "let": 2, "await": 2, "if": 1, "while": 1, "with": 2}


def is_plain_routine(word, routines):
    """Whether a plain routine is called so; its params and its steps do not matter here."""
    if not isinstance(word, str) or word not in routines:
        return False
    routine = routines[word]
    return isinstance(routine, tuple) and len(routine) == 3 and routine[0] == "plain"


def names_routine(op, word, routines):
    if op == "call":
        return isinstance(word, str) and word in routines
    if op == "handler" and word is None:
        return True
    return is_plain_routine(word, routines)


def is_call(call, routines):
    if not isinstance(call, tuple) or len(call) == 0:
        return False
    op = call[0]
    if not isinstance(op, str) or op not in ARITIES:
        return False
    least, most = ARITIES[op]
    if not least <= len(call) - 1 <= most or not all([is_arg(arg) for arg in call[1:]]):
        return False
    if op == "fault":
        return is_name(call[1]) and call[1] not in BARRED
    if op in ROUTINE_AT:
        return names_routine(op, call[ROUTINE_AT[op]], routines)
    return True


def is_target(value):
    return value is None or is_name(value)


def is_handler(handler):
    if not isinstance(handler, tuple) or len(handler) != 3:
        return False
    kinds, target, body = handler
    if not isinstance(kinds, tuple) or len(kinds) == 0 or not all([is_name(kind) for kind in kinds]):
        return False
    return is_target(target) and isinstance(body, tuple)


def is_part(shape, part, routines):
    if shape == "call":
        return is_call(part, routines)
    if shape == "name":
        return is_name(part)
    if shape == "target":
        return is_target(part)
    if shape == "arg":
        return is_arg(part)
    if shape == "body":
        return isinstance(part, tuple)
    return isinstance(part, tuple) and all([is_handler(handler) for handler in part])


def is_step(step, kind, in_loop, routines):
    """Whether this is a step, without regard to the steps of its inner bodies."""
    if not isinstance(step, tuple) or len(step) == 0 or not isinstance(step[0], str):
        return False
    word, parts = step[0], step[1:]
    if word == "say" or word == "raise" and len(parts) <= 1:
        return all([is_arg(part) for part in parts])
    if word not in SHAPES or len(parts) != len(SHAPES[word]):
        return False
    if word == "break" and not in_loop or word in FOR_ASYNC and kind != "async":
        return False
    return all([is_part(shape, part, routines) for shape, part in zip(SHAPES[word], parts)])


def inner_bodies(step):
    """The bodies in a step, each with its way from the step on, in the order in which they are read."""
    found = []
    for at, shape in enumerate(SHAPES.get(step[0], ()), start=1):
        if shape == "body":
            found.append(((at,), step[at]))
        elif shape == "handlers":
            for row, handler in enumerate(step[at]):
                found.append(((at, row, 2), handler[2]))
    return found


def first_wrong_step(word, routine, routines):
    """The place of the first step of a routine that is none, None where there is no such step."""
    kind, _, body = routine
    todo = [(step, (word, at), False) for at, step in enumerate(body)]
    todo.reverse()
    while todo:
        step, place, in_loop = todo.pop()
        if not is_step(step, kind, in_loop, routines):
            return place
        inner_loop = in_loop or step[0] in LOOPS
        inner = []
        for way, steps in inner_bodies(step):
            for at, inner_step in enumerate(steps):
                inner.append((inner_step, (*place, *way, at), inner_loop))
        inner.reverse()
        todo.extend(inner)
    return None


def used_ops(routines):
    """The ops that stand anywhere in routines that were checked, as the keys of a dict."""
    found = {}
    todo = [routines[word][2] for word in routines]
    while todo:
        body = todo.pop()
        for step in body:
            if step[0] in CALL_AT:
                found[step[CALL_AT[step[0]]][0]] = True
            todo.extend([steps for _, steps in inner_bodies(step)])
    return found
