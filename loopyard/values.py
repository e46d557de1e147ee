"""Comparing and showing values [1.3, 1.4, 10.7]."""

from loopyard.faults import Fault, Thrown, is_group
from loopyard.things import Task, Thing


def is_same(one, other):
    """Whether two values are the same; True and 1 are not."""
    todo = [(one, other)]
    while todo:
        left, right = todo.pop()
        if isinstance(left, tuple) and isinstance(right, tuple):
            if len(left) != len(right):
                return False
            todo.extend(list(zip(left, right)))
        elif isinstance(left, bool) != isinstance(right, bool) or left != right:
            return False
    return True


def first_unequal(left, right):
    """The first place at which both tuples have parts that are not equal, None where there is none."""
    for at, pair in enumerate(zip(left, right)):
        if pair[0] != pair[1]:
            return at
    return None


def is_less(left, right):
    """As Python compares plain values, bools among the numbers; a fault TypeError for all else."""
    while isinstance(left, tuple) and isinstance(right, tuple):
        at = first_unequal(left, right)
        if at is None:
            return len(left) < len(right)
        left, right = left[at], right[at]
    if isinstance(left, int) and isinstance(right, int):
        return left < right
    if isinstance(left, str) and isinstance(right, str):
        return left < right
    raise Thrown(Fault("TypeError"))


def thing_shown(thing, numbers):
    if isinstance(thing, Task):
        return thing.name
    if thing.number == 0:
        numbers[thing.KIND] = numbers.get(thing.KIND, 0) + 1
        thing.number = numbers[thing.KIND]
    return f"{thing.KIND}-{thing.number}"


def shown(value, numbers):
    """A value as the log has it; numbers tells how many things of each kind have been shown."""
    if isinstance(value, tuple):
        return tuple([shown(part, numbers) for part in value])
    if isinstance(value, Fault):
        row = ["fault", value.kind]
        row.extend([shown(part, numbers) for part in value.told])
        if is_group(value):
            row.append(shown(value.parts, numbers))
        return tuple(row)
    if isinstance(value, Thing):
        return thing_shown(value, numbers)
    return value


def bare_value(value):
    """A value as the bare log has it: things are told by their kinds alone [13.1]."""
    if isinstance(value, tuple):
        return tuple([bare_value(part) for part in value])
    if isinstance(value, Fault):
        row = ["fault", value.kind]
        row.extend([bare_value(part) for part in value.told])
        if is_group(value):
            row.append(bare_value(value.parts))
        return tuple(row)
    if isinstance(value, Thing):
        return value.KIND
    return value
