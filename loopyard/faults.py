"""Faults: the exceptions of a program, as values [1.2], and groups of them [8.1, 8.2]."""

CANCELLED_KIND = "CancelledError"
EXITS = ("SystemExit", "KeyboardInterrupt")
GROUPS = ("ExceptionGroup", "BaseExceptionGroup")
NO_EXCEPTIONS = ("CancelledError", "SystemExit", "KeyboardInterrupt", "BaseExceptionGroup")

ABOVE = {
    "TimeoutError": "OSError", "BlockingIOError": "OSError", "BrokenBarrierError": "RuntimeError",
    "ExceptionGroup": "BaseExceptionGroup",
}


class Fault:
    """An exception as a value: told are its args, parts the faults of a group."""

    def __init__(self, kind, told=(), parts=()):
        self.kind = kind
        self.told = told
        self.parts = parts

    def has(self, moment):
        return (self.kind, self.told, self.parts)


class Thrown(Exception):
    """A fault on its way out of what a program asked for."""

    def __init__(self, fault):
        self.fault = fault


def is_exit(fault):
    return fault.kind in EXITS


def is_cancel(fault):
    return fault.kind == CANCELLED_KIND


def is_group(fault):
    return fault.kind in GROUPS


def is_of_kind(fault, name):
    """Whether the fault is of this kind, or of one below it."""
    if name == "BaseException":
        return True
    if name == "Exception":
        return fault.kind not in NO_EXCEPTIONS
    return fault.kind == name or ABOVE.get(fault.kind, None) == name


def is_of_kinds(fault, kinds):
    return any([is_of_kind(fault, name) for name in kinds])


def grouped(message, parts):
    """A new group; it is a BaseExceptionGroup if one of its parts is no Exception."""
    if all([is_of_kind(part, "Exception") for part in parts]):
        return Fault("ExceptionGroup", (message,), parts)
    return Fault("BaseExceptionGroup", (message,), parts)


def group_or_none(message, parts):
    if len(parts) == 0:
        return None
    return grouped(message, tuple(parts))


def parted_fault(fault, kinds):
    """A tuple of what of a fault is of one of the kinds, and of what is not: each a fault or None."""
    if is_of_kinds(fault, kinds):
        return (fault, None)
    if not is_group(fault):
        return (None, fault)
    matching, others = [], []
    for part in fault.parts:
        match_part, other_part = parted_fault(part, kinds)
        if match_part is not None:
            matching.append(match_part)
        if other_part is not None:
            others.append(other_part)
    message = fault.told[0]
    return (group_or_none(message, matching), group_or_none(message, others))
