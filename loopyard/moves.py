"""The moves of a heap that is kept in a list [2.2, 2.3], in place, under any order."""


def rise(rows, low, at, comes_first):
    """Up to the place low; comes_first(a, b) is whether a must not stand below b."""
    while at > low:
        parent = (at - 1) // 2
        if not comes_first(rows[at], rows[parent]):
            return
        rows[at], rows[parent] = rows[parent], rows[at]
        at = parent


def sink(rows, at, comes_first):
    """Down to a place without children, whatever stands there, and then up again."""
    low = at
    while 2 * at + 1 < len(rows):
        child = 2 * at + 1
        if child + 1 < len(rows) and not comes_first(rows[child], rows[child + 1]):
            child += 1
        rows[at], rows[child] = rows[child], rows[at]
        at = child
    rise(rows, low, at, comes_first)


def push(rows, entry, comes_first):
    rows.append(entry)
    rise(rows, 0, len(rows) - 1, comes_first)


def take_first(rows, comes_first):
    last = rows.pop()
    if not rows:
        return last
    first = rows[0]
    rows[0] = last
    sink(rows, 0, comes_first)
    return first


def make_heap(rows, comes_first):
    for at in reversed(range(len(rows) // 2)):
        sink(rows, at, comes_first)


def is_earlier(entry, other):
    """The order of timers: by when alone."""
    return entry[0] < other[0]
