"""How many args each op takes: the least and the most number of them [5.11]."""

ARITIES = {
    "time": (0, 0), "current": (0, 0), "tasks": (0, 0), "stop": (0, 0), "future": (0, 0), "group": (0, 0),
    "lock": (0, 0), "event": (0, 0),
    "condition": (0, 1), "semaphore": (0, 1), "bounded": (0, 1), "queue": (0, 1), "lifo_queue": (0, 1),
    "priority_queue": (0, 1),
    "it": (1, 1), "not": (1, 1), "size": (1, 1), "kind": (1, 1), "args": (1, 1), "spend": (1, 1),
    "unread": (1, 1), "read": (1, 1), "ensure": (1, 1), "name": (1, 1), "close": (1, 1), "handler": (1, 1),
    "result": (1, 1), "exception": (1, 1), "done": (1, 1), "cancelled": (1, 1), "cancelling": (1, 1),
    "uncancel": (1, 1), "shield": (1, 1), "timeout": (1, 1), "timeout_at": (1, 1), "expired": (1, 1),
    "when": (1, 1), "faults_of": (1, 1), "barrier": (1, 1), "locked": (1, 1), "acquire": (1, 1),
    "release": (1, 1), "is_set": (1, 1), "set": (1, 1), "clear": (1, 1), "wait_on": (1, 1),
    "notify_all": (1, 1), "reset": (1, 1), "abort": (1, 1), "parties": (1, 1), "waiting": (1, 1),
    "broken": (1, 1), "get": (1, 1), "get_nowait": (1, 1), "qsize": (1, 1), "empty": (1, 1), "full": (1, 1),
    "task_done": (1, 1), "join": (1, 1),
    "task": (1, 2), "cancel": (1, 2), "sleep": (1, 2), "gather": (1, 2), "as_completed": (1, 2),
    "notify": (1, 2), "shutdown": (1, 2),
    "wait": (1, 3),
    "soon": (1, 9),
    "same": (2, 2), "less": (2, 2), "add": (2, 2), "item": (2, 2), "set_result": (2, 2),
    "set_exception": (2, 2), "on_done": (2, 2), "off_done": (2, 2), "wait_for": (2, 2), "reschedule": (2, 2),
    "group_of": (2, 2), "split": (2, 2), "subgroup": (2, 2), "put": (2, 2), "put_nowait": (2, 2),
    "start": (2, 3),
    "later": (2, 9), "at": (2, 9), "reader": (2, 9), "wait_until": (2, 9),
    "fault": (1, 1000000000), "call": (1, 1000000000),
}

# At which place of a call its routine stands, the op itself being at 0.
ROUTINE_AT = {
    "call": 1, "soon": 1, "handler": 1,
    "later": 2, "at": 2, "reader": 2, "on_done": 2, "off_done": 2, "wait_until": 2,
}
