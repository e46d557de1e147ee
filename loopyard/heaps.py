"""The heap of timers as a module of its own: lists of entries (when, number) [2]."""

from loopyard.errors import BadValue
from loopyard.moves import is_earlier, make_heap, push, take_first
from loopyard.texts import is_whole

MOST_ROWS = 5000
SWEPT_FROM = 100


def is_entry(entry):
    return isinstance(entry, tuple) and len(entry) == 2 and is_whole(entry[0]) and is_whole(entry[1])


def check_rows(rows):
    if not isinstance(rows, list) or len(rows) > MOST_ROWS or not all([is_entry(entry) for entry in rows]):
        raise BadValue("rows are a list of at most 5,000 entries")


def check_whole(value):
    if not is_whole(value):
        raise BadValue("a whole number is needed")


def check_swept(gone, count):
    if not isinstance(gone, (tuple, list)) or not all([is_whole(number) for number in gone]):
        raise BadValue("gone is a tuple or list of whole numbers")
    check_whole(count)
    if count < 0:
        raise BadValue("count is a whole number from 0 on")


def is_heap(rows):
    """Whether the when of no entry is less than that of its parent."""
    check_rows(rows)
    return not any([is_earlier(rows[at], rows[(at - 1) // 2]) for at in range(1, len(rows))])


def pushed(rows, entry):
    """The list with one more entry."""
    check_rows(rows)
    if not is_entry(entry):
        raise BadValue("an entry is a tuple of two whole numbers")
    heap = list(rows)
    push(heap, entry, is_earlier)
    return heap


def popped(rows):
    """A tuple of the first entry and the list without it."""
    check_rows(rows)
    if not rows:
        raise BadValue("there is no entry")
    heap = list(rows)
    first = take_first(heap, is_earlier)
    return (first, heap)


def heaped(rows):
    """The entries as a heap."""
    check_rows(rows)
    heap = list(rows)
    make_heap(heap, is_earlier)
    return heap


def ripe(rows, now):
    """A tuple of two lists: the entries that are due, as they are popped, and those that are left."""
    check_rows(rows)
    check_whole(now)
    heap = list(rows)
    due = []
    while heap and heap[0][0] <= now:
        due.append(take_first(heap, is_earlier))
    return (due, heap)


def swept(rows, gone, count):
    """What step 1 of a turn leaves of a heap and of the count of cancelled timers [3.4]."""
    check_rows(rows)
    check_swept(gone, count)
    is_gone = {number: True for number in gone}
    if len(rows) > SWEPT_FROM and 2 * count > len(rows):
        heap = [entry for entry in rows if entry[1] not in is_gone]
        make_heap(heap, is_earlier)
        return (heap, 0)
    heap = list(rows)
    left = count
    while heap and heap[0][1] in is_gone:
        take_first(heap, is_earlier)
        left -= 1
    return (heap, left)
