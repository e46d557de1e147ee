"""Lines and rows of futures that wait to be woken [9.1, 10.2, 10.5]."""

from loopyard.futures import cancel, is_done, new_future, release
from loopyard.things import CANCELLED


def join_line(loop, line):
    """A new waiter at the end of a line."""
    waiter = new_future(loop)
    line.append(waiter)
    return waiter


def leave_line(line, waiter):
    if waiter in line:
        line.remove(waiter)


def wake_next(loop, line):
    """The first waiter that is not done is set to None; those ahead of it are taken out, too."""
    while line:
        waiter = line.pop(0)
        if not is_done(waiter):
            release(loop, waiter, None)
            return


def wake_all(loop, line):
    """All waiters are taken out, in order; those that are not done are set to None."""
    while line:
        release(loop, line.pop(0), None)


def give_up(loop, line, waiter, held_up):
    """A wait in a line has ended with a fault: who was woken hands this on, if there is a use for it."""
    cancel(loop, waiter, None)
    leave_line(line, waiter)
    if not held_up and waiter.state != CANCELLED:
        wake_next(loop, line)


def wake_live(loop, row, most, value):
    """Set up to so many waiters of a row to a value: those that are not done; all of them stay there."""
    left = most
    for waiter in list(row):
        if left <= 0:
            return
        if not is_done(waiter):
            release(loop, waiter, value)
            left -= 1
