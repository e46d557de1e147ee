"""The things that every part of the loop knows: handles, coroutines, futures, tasks."""

OPEN = 0
VALUED = 1
FAULTED = 2
CANCELLED = 3


class Thing:
    """An object of a run. It gets its number when it is first shown."""

    KIND = "Thing"

    def __init__(self):
        self.number = 0


class Handle(Thing):
    """A callback that is to be carried out; given is the future that it was laid to, if any."""

    KIND = "Handle"

    def __init__(self, call, given=None, due=None):
        Thing.__init__(self)
        self.call = call
        self.given = given
        self.due = due
        self.heaped = False
        self.dropped = False

    def has(self, moment):
        deed = self.call.does(moment)
        if self.given is not None:
            deed = (*deed, self.given)
        return (deed, self.dropped, moment.time_of(self.due, self.heaped))


class Coroutine(Thing):
    """What an async routine, or an op of the loop's own, does when it is awaited."""

    KIND = "Coroutine"

    def __init__(self, serial, word, carrier):
        Thing.__init__(self)
        self.serial = serial
        self.word = word
        self.carrier = carrier
        self.fresh = True

    def has(self, moment):
        """What it will carry out, as long as it was not awaited; else whether it is being awaited."""
        if self.fresh:
            return ("fresh", self.carrier)
        return (moment.is_carried_out(self.carrier),)


class Future(Thing):
    """It gets a value, or a fault, or is cancelled; laid are the callbacks that wait for this."""

    KIND = "Future"

    def __init__(self, serial):
        Thing.__init__(self)
        self.serial = serial
        self.state = OPEN
        self.value = None
        self.fault = None
        self.message = None
        self.kept = None
        self.laid = []

    def has(self, moment):
        return future_has(self, moment)


def future_has(future, moment):
    """What each future has, whatever else it is."""
    laid = tuple([call.does(moment) for call in future.laid])
    return (future.state, future.value, future.fault, future.message, future.kept, laid)


class Task(Future):
    """A future that carries out a coroutine; stack holds what it carries out, the innermost last."""

    KIND = "Task"

    def __init__(self, serial, name, coroutine):
        Future.__init__(self, serial)
        self.name = name
        self.coroutine = coroutine
        self.begun = False
        self.stack = []
        self.waits = None
        self.requests = 0
        self.marked = False

    def has(self, moment):
        stack = (moment.name_of(self), self.coroutine, tuple(self.stack))
        return (future_has(self, moment), stack, self.waits, self.requests, self.marked)


class Gathering(Future):
    """A future for the outcomes of several children; asked is whether it has been asked to cancel."""

    def __init__(self, serial, children, as_values):
        Future.__init__(self, serial)
        self.children = children
        self.as_values = as_values
        self.asked = False
        self.is_asking = False

    def has(self, moment):
        return (future_has(self, moment), self.children, self.as_values, self.asked)
