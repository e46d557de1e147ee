"""Task groups [8.3 to 8.8]."""

from loopyard.checks import need
from loopyard.coroutines import use_up
from loopyard.faults import Fault, Thrown, grouped, is_cancel, is_exit
from loopyard.futures import cancel, give_value, is_done, lay, new_future, see
from loopyard.managers import Manager
from loopyard.signals import ENDS, ENTERS, FAILS, FAULT, WAITS
from loopyard.tasks import make_task, uncancel
from loopyard.things import CANCELLED, Coroutine

LATE_MESSAGE = "Task errored out but its parent task is already completed"
GROUP_MESSAGE = "unhandled errors in a TaskGroup"


class TaskGroup(Manager):
    """Tasks that are waited for at the end of a block, and fail together."""

    KIND = "TaskGroup"

    def __init__(self):
        Manager.__init__(self)
        self.members = []
        self.faults = []
        self.great = None
        self.parent = None
        self.waiter = None
        self.entered_once = False
        self.leaving = False
        self.aborting = False
        self.asked = False

    def has(self, moment):
        marks = (self.entered_once, self.leaving, self.aborting, self.asked)
        return (tuple(self.members), tuple(self.faults), self.great, self.parent, self.waiter, marks)

    def enter(self, loop):
        if self.entered_once or loop.current is None:
            raise Thrown(Fault("RuntimeError"))
        self.parent = loop.current
        self.entered_once = True
        return (ENDS, self)

    def leave(self, loop, how, value):
        return (ENTERS, GroupLeaving(self, value if how == FAULT else None))

    def can_start(self):
        return self.entered_once and not self.aborting and not (self.leaving and not self.members)

    def abort(self, loop):
        self.aborting = True
        for task in list(self.members):
            if not is_done(task):
                cancel(loop, task, None)

    def note_great(self, fault):
        if self.great is None and is_exit(fault):
            self.great = fault

    def who(self):
        return "group"

    def does(self, moment):
        return ("group", self)

    def fire(self, loop, given):
        """A task of the group is done [8.5]."""
        self.members.remove(given)
        if self.waiter is not None and not is_done(self.waiter) and not self.members:
            give_value(loop, self.waiter, True)
        if given.state == CANCELLED or given.fault is None:
            return
        see(loop, given)
        self.faults.append(given.fault)
        self.note_great(given.fault)
        if is_done(self.parent):
            loop.report(LATE_MESSAGE, given.fault, given.name)
        elif not self.aborting and not self.asked:
            self.abort(loop)
            self.asked = True
            cancel(loop, self.parent, None)

    def forget(self):
        self.faults = []
        self.great = None
        self.parent = None


class GroupLeaving:
    """The end of a block within a group: it waits for the tasks of the group [8.7]."""

    def __init__(self, group, fault):
        self.group = group
        self.fault = fault
        self.held = None

    def has(self, moment):
        return (self.group, self.fault, self.held)

    def start(self, loop):
        group = self.group
        group.leaving = True
        if self.fault is not None:
            group.note_great(self.fault)
            if is_cancel(self.fault):
                self.held = self.fault
            if not group.aborting:
                group.abort(loop)
        return self.wait(loop)

    def wait(self, loop):
        group = self.group
        if group.members:
            group.waiter = new_future(loop)
            return (WAITS, group.waiter)
        fault = self.last_fault(loop)
        group.forget()
        if fault is None:
            return (ENDS, None)
        return (FAILS, fault)

    def took(self, loop, value):
        group = self.group
        group.waiter = None
        return self.wait(loop)

    def threw(self, loop, fault):
        group = self.group
        if not group.aborting:
            self.held = fault
            group.abort(loop)
        group.waiter = None
        return self.wait(loop)

    def last_fault(self, loop):
        """The fault that goes on behind the block, None where its end stands."""
        group, parent = self.group, self.group.parent
        if group.great is not None:
            return group.great
        if group.asked and uncancel(parent) == 0:
            self.held = None
        if self.held is not None and not group.faults:
            return self.held
        if self.fault is not None and not is_cancel(self.fault):
            group.faults.append(self.fault)
        if not group.faults:
            return None
        if parent.requests > 0:
            uncancel(parent)
            cancel(loop, parent, None)
        return grouped(GROUP_MESSAGE, tuple(group.faults))


def make_group(loop):
    return TaskGroup()


def start_task(loop, group, coroutine, name=None):
    need(isinstance(group, TaskGroup), "AttributeError")
    need(isinstance(coroutine, Coroutine), "TypeError")
    need(name is None or isinstance(name, str), "TypeError")
    if not group.can_start():
        use_up(loop, coroutine)
        raise Thrown(Fault("RuntimeError"))
    task = make_task(loop, coroutine, name)
    lay(loop, task, group)
    group.members.append(task)
    return task


GROUP_OPS = {"group": make_group, "start": start_task}
