"""Gathering the outcomes of several children in one future [7.4]."""

from loopyard.checks import need_awaitable, need_tuple
from loopyard.faults import CANCELLED_KIND, Fault
from loopyard.futures import cancelled_fault, give_fault, give_value, is_done, lay, new_future, see
from loopyard.tasks import as_future
from loopyard.things import CANCELLED, Gathering


class Gatherer:
    """The callback at the children of a gathering future, which is made behind all of them."""

    def __init__(self):
        self.outer = None
        self.left = 0

    def who(self):
        return "gather"

    def does(self, moment):
        """How many are still to be looked at matters only as long as the gathering future is open."""
        outer = self.outer
        if outer is None or is_done(outer):
            return ("gather", outer)
        return ("gather", outer, self.left)

    def fire(self, loop, given):
        self.look_at(loop, given)

    def look_at(self, loop, child):
        outer = self.outer
        self.left -= 1
        if outer is None or is_done(outer):
            see(loop, child)
        elif not outer.as_values and child.state == CANCELLED:
            give_fault(loop, outer, cancelled_fault(child))
        elif not outer.as_values and child.fault is not None:
            see(loop, child)
            give_fault(loop, outer, child.fault)
        elif self.left == 0:
            self.end_all(loop)

    def end_all(self, loop):
        outer = self.outer
        for child in outer.children:
            see(loop, child)
        if not outer.asked:
            give_value(loop, outer, tuple([child_outcome(child) for child in outer.children]))
            return
        # Of one that was not cancelled this is a new fault with the message that it keeps.
        give_fault(loop, outer, cancelled_fault(outer.children[-1]))


def child_outcome(child):
    """What stands for a child in the result: it asks for no CancelledError that is kept."""
    if child.state != CANCELLED:
        return child.value if child.fault is None else child.fault
    return Fault(CANCELLED_KIND, ("" if child.message is None else child.message,))


def gather(loop, things, as_values):
    need_tuple(things)
    if len(things) == 0:
        outer = new_future(loop)
        give_value(loop, outer, ())
        return outer
    gatherer = Gatherer()
    taken = {}
    done = []
    children = []
    for thing in things:
        need_awaitable(thing)
        if thing not in taken:
            child = as_future(loop, thing)
            taken[thing] = child
            if is_done(child):
                done.append(child)
            else:
                lay(loop, child, gatherer)
        children.append(taken[thing])
    gatherer.left = len(taken)
    gatherer.outer = Gathering(loop.next_serial(), tuple(children), bool(as_values))
    for child in done:
        gatherer.look_at(loop, child)
    return gatherer.outer
