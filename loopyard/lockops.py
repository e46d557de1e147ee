"""Ops of locks, events, conditions, semaphores and barriers [9]."""

from loopyard.barriers import BROKEN, FILLING, Barrier, BarrierChange, BarrierWait
from loopyard.checks import need, need_whole
from loopyard.conditions import Condition, ConditionUntil, ConditionWait
from loopyard.coroutines import new_coroutine
from loopyard.locks import Acquire, Event, EventWait, Lock
from loopyard.semaphores import BoundedSemaphore, Semaphore, TakeOne


def make_lock(loop):
    return Lock()


def make_event(loop):
    return Event()


def make_condition(loop, *lock):
    if len(lock) == 0:
        return Condition(Lock())
    need(isinstance(lock[0], Lock), "AttributeError")
    return Condition(lock[0])


def need_value(value):
    need_whole(value)
    need(value >= 0, "ValueError")


def make_semaphore(loop, value=1):
    need_value(value)
    return Semaphore(value)


def make_bounded(loop, value=1):
    need_value(value)
    return BoundedSemaphore(value)


def make_barrier(loop, parties):
    need_whole(parties)
    need(parties >= 1, "ValueError")
    return Barrier(parties)


def lock_of(thing):
    """What of a thing is acquired: itself, or the lock on which a condition stands."""
    if isinstance(thing, Condition):
        return thing.lock
    need(isinstance(thing, (Lock, Semaphore)), "AttributeError")
    return thing


def tell_locked(loop, thing):
    lock = lock_of(thing)
    if isinstance(lock, Semaphore):
        return lock.is_locked()
    return lock.held


def acquire(loop, thing):
    lock = lock_of(thing)
    if isinstance(lock, Semaphore):
        return new_coroutine(loop, "acquire", TakeOne(lock))
    return new_coroutine(loop, "acquire", Acquire(lock))


def let_go(loop, thing):
    lock = lock_of(thing)
    if isinstance(lock, Semaphore):
        lock.give_back(loop)
    else:
        lock.set_free(loop)


def need_event(value):
    need(isinstance(value, Event), "AttributeError")


def tell_set(loop, event):
    need_event(event)
    return event.is_on


def turn_on(loop, event):
    need_event(event)
    event.turn_on(loop)


def turn_off(loop, event):
    need_event(event)
    event.is_on = False


def wait_on(loop, thing):
    need(isinstance(thing, (Event, Condition, Barrier)), "AttributeError")
    if isinstance(thing, Event):
        return new_coroutine(loop, "wait_on", EventWait(thing))
    if isinstance(thing, Condition):
        return new_coroutine(loop, "wait_on", ConditionWait(thing))
    return new_coroutine(loop, "wait_on", BarrierWait(thing))


def need_condition(value):
    need(isinstance(value, Condition), "AttributeError")


def wait_until(loop, condition, word, *told):
    need_condition(condition)
    return new_coroutine(loop, "wait_until", ConditionUntil(condition, word, list(told)))


def notify(loop, condition, most=1):
    need_condition(condition)
    need_whole(most)
    condition.notify(loop, most)


def notify_all(loop, condition):
    need_condition(condition)
    condition.notify_all(loop)


def need_barrier(value):
    need(isinstance(value, Barrier), "AttributeError")


def reset(loop, barrier):
    need_barrier(barrier)
    return new_coroutine(loop, "reset", BarrierChange(barrier, False))


def abort(loop, barrier):
    need_barrier(barrier)
    return new_coroutine(loop, "abort", BarrierChange(barrier, True))


def tell_parties(loop, barrier):
    need_barrier(barrier)
    return barrier.parties


def tell_waiting(loop, barrier):
    need_barrier(barrier)
    return barrier.inside if barrier.state == FILLING else 0


def tell_broken(loop, barrier):
    need_barrier(barrier)
    return barrier.state == BROKEN


LOCK_OPS = {
    "lock": make_lock, "event": make_event, "condition": make_condition, "semaphore": make_semaphore,
    "bounded": make_bounded, "barrier": make_barrier, "locked": tell_locked, "acquire": acquire,
    "release": let_go, "is_set": tell_set, "set": turn_on, "clear": turn_off, "wait_on": wait_on,
    "wait_until": wait_until, "notify": notify, "notify_all": notify_all, "reset": reset, "abort": abort,
    "parties": tell_parties, "waiting": tell_waiting, "broken": tell_broken,
}
