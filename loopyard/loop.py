"""The loop: its clock, its ready queue, its heap of timers, its sources [3]."""

from loopyard.allops import all_ops
from loopyard.faults import Thrown, is_exit
from loopyard.machine import run_plain
from loopyard.moves import is_earlier, make_heap, push, take_first
from loopyard.sources import all_sources
from loopyard.things import Handle
from loopyard.values import shown

SWEPT_FROM = 100


class Loop:
    """One thread, one loop: all that a run of a program has."""

    def __init__(self, program, debug, slow):
        self.table = program.routines
        self.ops = all_ops()
        self.used = program.ops
        self.sources = all_sources(program.outside)
        self.debug = debug
        self.slow = slow
        self.now = 0
        self.ready = []
        self.heap = []
        self.dropped_timers = 0
        self.readers = {}
        self.stopping = False
        self.closed = False
        self.reporter = None
        self.shared = {}
        self.current = None
        self.log = []
        self.said = []
        self.notes = []
        self.numbers = {}
        self.unnamed = 0
        self.serials = 0
        self.fresh = {}
        self.undone = {}
        self.unseen = {}

    def has(self, moment):
        """All that its further course hangs on, what is quick to compare ahead of the rest."""
        now = self.now if moment.tells_time else None
        unnamed = self.unnamed if moment.tells_names else None
        times = tuple([row[0] - self.now for row in self.heap])
        coming = tuple([(source, self.sources[source].to_come(self.now)) for source in sorted(self.sources)])
        return (
            (self.stopping, self.closed, now, unnamed, self.dropped_timers, times, coming),
            (tuple(self.ready), tuple([row[1] for row in self.heap])),
            tuple([(source, self.readers[source]) for source in self.readers]),
            (moment.common, tuple(list(self.undone.values()))),
        )

    def next_serial(self):
        self.serials += 1
        return self.serials

    def show(self, value):
        return shown(value, self.numbers)

    def say(self, values):
        name = None
        if self.current is not None:
            name = self.current.name
        row = [self.show(value) for value in values]
        self.log.append((self.now, name, *row))
        self.said.append((self.now, name is not None, tuple(values)))

    def note(self, message, who, worth):
        self.notes.append((self.now, message, who, worth))

    def report(self, message, fault, who):
        """Tell the routine that the program has laid for this, or else the notes [11.6]."""
        if self.reporter is None:
            self.note(message, who, self.show(fault))
            return
        try:
            run_plain(self, self.reporter, [message, fault, who])
        except Thrown as e:
            if is_exit(e.fault):
                raise
            self.note("Unhandled error in exception handler", None, self.show(e.fault))

    def soon(self, call, given=None):
        handle = Handle(call, given)
        self.ready.append(handle)
        return handle

    def timer_at(self, due, call):
        handle = Handle(call, None, due)
        handle.heaped = True
        push(self.heap, (due, handle), is_earlier)
        return handle

    def drop(self, handle):
        """Cancel a handle; the count of cancelled timers is of those in the heap alone [2.5]."""
        if handle.heaped and not handle.dropped:
            self.dropped_timers += 1
        handle.dropped = True

    def take_timer(self):
        handle = take_first(self.heap, is_earlier)[1]
        handle.heaped = False
        return handle

    def sweep(self):
        """Step 1 of a turn [3.4]."""
        if len(self.heap) > SWEPT_FROM and 2 * self.dropped_timers > len(self.heap):
            for _, handle in self.heap:
                handle.heaped = not handle.dropped
            self.heap = [row for row in self.heap if not row[1].dropped]
            make_heap(self.heap, is_earlier)
            self.dropped_timers = 0
            return
        while self.heap and self.heap[0][1].dropped:
            self.take_timer()
            self.dropped_timers -= 1

    def readable(self):
        """The registered sources at which something has arrived that was not taken."""
        return [source for source in self.readers if self.has_arrived(source)]

    def has_arrived(self, source):
        return source in self.sources and self.sources[source].has_arrived(self.now)

    def expected(self):
        """The registered sources at which something is unread or still to come."""
        return [source for source in self.readers if source in self.sources and not self.sources[source].is_spent()]

    def arrival_times(self):
        return [self.sources[source].next_time() for source in self.expected()]

    def is_stuck(self):
        """Whether nothing will ever come, whatever the next turn sweeps ahead of its waiting."""
        if self.ready or self.stopping or self.readable():
            return False
        return not self.arrival_times() and all([row[1].dropped for row in self.heap])

    def wait(self):
        """Step 2 of a turn; whether anything will ever come."""
        if self.ready or self.stopping or self.readable():
            return True
        times = [row[0] for row in self.heap[:1]] + self.arrival_times()
        if not times:
            return False
        self.now = max(self.now, min(times))
        return True

    def turn(self):
        """One turn; False if the loop is stuck. SystemExit and KeyboardInterrupt are thrown."""
        self.sweep()
        if not self.wait():
            return False
        self.ready.extend([self.readers[source] for source in self.readable()])
        while self.heap and self.heap[0][0] <= self.now:
            self.ready.append(self.take_timer())
        self.carry_out_ready()
        return True

    def carry_out_ready(self):
        """Carry out the handles that are ready now; behind one that ends the run the rest stays."""
        many = len(self.ready)
        done = 0
        fault = None
        while done < many and fault is None:
            handle = self.ready[done]
            done += 1
            if not handle.dropped:
                fault = self.carry_out(handle)
        del self.ready[:done]
        if fault is not None:
            raise Thrown(fault)

    def carry_out(self, handle):
        """Carry out a handle; the fault that ends the run, None where there is none."""
        before = self.now
        who = handle.call.who()
        try:
            self.fire(handle, who)
        except Thrown as e:
            return e.fault
        if self.debug and self.now - before >= self.slow:
            self.note("slow", who, self.now - before)
        return None

    def fire(self, handle, who):
        try:
            handle.call.fire(self, handle.given)
        except Thrown as e:
            if is_exit(e.fault):
                raise
            self.report(f"Exception in callback {who}", e.fault, who)

    def can_come(self):
        """The handles that can still be carried out."""
        if self.closed:
            return []
        handles = self.ready + [row[1] for row in self.heap]
        handles.extend([self.readers[source] for source in self.expected()])
        return [handle for handle in handles if not handle.dropped]

    def close(self):
        """Nothing more is carried out; what was left undone is noted [11.5]."""
        if self.closed:
            return
        self.closed = True
        self.ready = []
        self.heap = []
        for coroutine in list(self.fresh.values()):
            self.note("coroutine was never awaited", coroutine.word, None)
        for task in list(self.undone.values()):
            self.note("Task was destroyed but it is pending!", task.name, None)
        for serial in sorted(self.unseen):
            future = self.unseen[serial]
            word = "Task" if future.KIND == "Task" else "Future"
            who = self.show(future)
            self.note(f"{word} exception was never retrieved", who, self.show(future.fault))
