"""What becomes of futures: values, faults, callbacks, and requests to cancel [4, 6, 7.5]."""

from loopyard.faults import CANCELLED_KIND, Fault, Thrown
from loopyard.signals import THREW, TOOK
from loopyard.things import CANCELLED, FAULTED, OPEN, VALUED, Future, Gathering, Task


def new_future(loop):
    return Future(loop.next_serial())


def is_done(future):
    return future.state != OPEN


def see(loop, future):
    """The future's fault, if it has one, counts as seen from now on."""
    loop.unseen.pop(future.serial, None)


def lay(loop, future, callback):
    if is_done(future):
        loop.soon(callback, future)
    else:
        future.laid.append(callback)


def unlay(future, callback):
    """Forget a callback, as often as it is laid there."""
    future.laid = [other for other in future.laid if other != callback]


def finish(loop, future):
    """A future that is done now has its callbacks called, and is pending no longer."""
    laid = future.laid
    future.laid = []
    for callback in laid:
        loop.soon(callback, future)
    loop.undone.pop(future.serial, None)


def give_value(loop, future, value):
    if is_done(future):
        raise Thrown(Fault("InvalidStateError"))
    future.state = VALUED
    future.value = value
    finish(loop, future)


def give_fault(loop, future, fault):
    if is_done(future):
        raise Thrown(Fault("InvalidStateError"))
    future.state = FAULTED
    future.fault = fault
    loop.unseen[future.serial] = future
    finish(loop, future)


def give_cancelled(loop, future, message):
    future.state = CANCELLED
    future.message = message
    finish(loop, future)


def release(loop, future, value):
    """Give the future this value, unless it is done."""
    if not is_done(future):
        give_value(loop, future, value)


def cancelled_fault(future):
    """The CancelledError for who asks now: the one that is kept goes to the first [6.5]."""
    kept = future.kept
    future.kept = None
    if kept is not None:
        return kept
    if future.message is None:
        return Fault(CANCELLED_KIND)
    return Fault(CANCELLED_KIND, (future.message,))


def outcome(loop, future):
    """What a done future gives to who asks: TOOK and its value, or THREW and its fault."""
    if future.state == CANCELLED:
        return (THREW, cancelled_fault(future))
    see(loop, future)
    if future.state == FAULTED:
        return (THREW, future.fault)
    return (TOOK, future.value)


def ask(loop, future):
    """The value of a future; its fault is thrown."""
    if not is_done(future):
        raise Thrown(Fault("InvalidStateError"))
    deed, worth = outcome(loop, future)
    if deed == THREW:
        raise Thrown(worth)
    return worth


def ask_fault(loop, future):
    """The fault of a future, None where it has a value; of a cancelled one it is thrown."""
    if not is_done(future):
        raise Thrown(Fault("InvalidStateError"))
    if future.state == CANCELLED:
        raise Thrown(cancelled_fault(future))
    see(loop, future)
    return future.fault


class Level:
    """A gathering future that is asked to cancel, the children still to be asked, and the task that waits for it."""

    def __init__(self, gathering, task):
        self.gathering = gathering
        self.task = task
        self.left = list(gathering.children)
        self.left.reverse()
        self.agreed = False


def mark(task, message):
    task.marked = True
    task.message = message


def cancel_last(loop, future, message):
    """The answer of a future that hangs on no other one."""
    if not isinstance(future, Gathering):
        see(loop, future)
    if is_done(future) or isinstance(future, (Gathering, Task)):
        return False
    give_cancelled(loop, future, message)
    return True


def begin_request(loop, future, message, levels):
    """The answer to a request to cancel, or None: then it hangs on the children of a new level.

    Of tasks that wait for one another only the last one can be marked: all others have a future that agrees.
    """
    task = None
    # In a ring of tasks, for which nothing is promised, this ends at least.
    hops = loop.serials
    while isinstance(future, Task) and not is_done(future) and hops > 0:
        hops -= 1
        task = future
        task.requests += 1
        if task.waits is None:
            mark(task, message)
            return True
        future = task.waits
    if isinstance(future, Gathering) and not is_done(future) and not future.is_asking:
        future.is_asking = True
        levels.append(Level(future, task))
        return None
    return task_answer(task, cancel_last(loop, future, message), message)


def task_answer(task, agreed, message):
    """The answer of the task that waits for what has answered so; without one this is the answer."""
    if task is None:
        return agreed
    if not agreed:
        mark(task, message)
    return True


def cancel(loop, future, message):
    """Request to cancel; whether it was taken. Chains may be long, so this does not recurse."""
    levels = []
    answer = begin_request(loop, future, message, levels)
    while levels:
        level = levels[-1]
        level.agreed = level.agreed or answer is True
        if level.left:
            answer = begin_request(loop, level.left.pop(), message, levels)
        else:
            levels.pop()
            gathering = level.gathering
            gathering.is_asking = False
            gathering.asked = gathering.asked or level.agreed
            answer = task_answer(level.task, level.agreed, message)
    return answer


class Release:
    """A callback that gives a future a value, unless it is done."""

    def __init__(self, future, value=None):
        self.future = future
        self.value = value

    def who(self):
        return "release"

    def does(self, moment):
        return ("release", self.future, self.value)

    def fire(self, loop, given):
        release(loop, self.future, self.value)
