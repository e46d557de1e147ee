"""Ops of queues [10]."""

from loopyard.checks import need, need_whole
from loopyard.coroutines import new_coroutine
from loopyard.queues import FIRST_OUT, LAST_OUT, LEAST_OUT, Get, Join, Put, Queue


def make_queue(loop, most=0):
    need_whole(most)
    return Queue(FIRST_OUT, most)


def make_lifo_queue(loop, most=0):
    need_whole(most)
    return Queue(LAST_OUT, most)


def make_priority_queue(loop, most=0):
    need_whole(most)
    return Queue(LEAST_OUT, most)


def need_queue(value):
    need(isinstance(value, Queue), "AttributeError")


def put(loop, queue, item):
    need_queue(queue)
    return new_coroutine(loop, "put", Put(queue, item))


def put_nowait(loop, queue, item):
    need_queue(queue)
    queue.put_now(loop, item)


def get_item(loop, queue):
    need_queue(queue)
    return new_coroutine(loop, "get", Get(queue))


def get_nowait(loop, queue):
    need_queue(queue)
    return queue.get_now(loop)


def join(loop, queue):
    need_queue(queue)
    return new_coroutine(loop, "join", Join(queue))


def shut_down(loop, queue, at_once=False):
    need_queue(queue)
    queue.shut(loop, bool(at_once))


def task_done(loop, queue):
    need_queue(queue)
    queue.finish_one(loop)


def tell_size(loop, queue):
    need_queue(queue)
    return len(queue.rows)


def tell_empty(loop, queue):
    need_queue(queue)
    return queue.is_empty()


def tell_full(loop, queue):
    need_queue(queue)
    return queue.is_full()


QUEUE_OPS = {
    "queue": make_queue, "lifo_queue": make_lifo_queue, "priority_queue": make_priority_queue, "put": put,
    "put_nowait": put_nowait, "get": get_item, "get_nowait": get_nowait, "join": join, "shutdown": shut_down,
    "task_done": task_done, "qsize": tell_size, "empty": tell_empty, "full": tell_full,
}
