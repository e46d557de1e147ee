"""The heap of timers as a module of its own [2]."""

import heapq
import inspect
import random
import unittest

from loopyard.errors import BadValue
from loopyard.heaps import heaped, is_heap, popped, pushed, ripe, swept

OBJECTS = (None, True, 1, "x", b"x", 1.5, (), [], {}, set(), frozenset(), object(), int, range(3), BadValue("x"))
ENTRIES = [(5, 0), (5, 1), (3, 2)]


class Entry:
    """An entry that Python's heapq compares by when alone."""

    def __init__(self, row):
        self.row = row

    def __lt__(self, other):
        return self.row[0] < other.row[0]


def entries(rows):
    return [Entry(row) for row in rows]


def rows_of(heap):
    return [entry.row for entry in heap]


def some_rows(draw, most=40):
    return [(draw.randrange(-4, 9), number) for number in range(draw.randrange(most))]


class MovesTest(unittest.TestCase):
    def test_is_heap(self):
        for rows in ([], [(1, 0)], [(1, 0), (1, 1)], [(1, 0), (2, 1), (1, 2)], [(-3, 0), (-3, 9), (0, 9), (-3, 1)]):
            self.assertIs(True, is_heap(rows), rows)
        for rows in ([(2, 0), (1, 1)], [(1, 0), (2, 1), (0, 2)], [(1, 0), (3, 1), (1, 2), (2, 3)],
                     [(1, 0), (1, 1), (3, 2), (1, 3), (1, 4), (3, 5), (2, 6)]):
            self.assertIs(False, is_heap(rows), rows)

    def test_pushed(self):
        self.assertEqual([(1, 0)], pushed([], (1, 0)))
        self.assertEqual([(5, 0), (5, 1)], pushed([(5, 0)], (5, 1)))
        self.assertEqual([(4, 1), (5, 0)], pushed([(5, 0)], (4, 1)))
        # It rises past its parent, and stops below one that is not greater.
        self.assertEqual([(1, 0), (2, 3), (7, 2), (4, 1)], pushed([(1, 0), (4, 1), (7, 2)], (2, 3)))

    def test_popped(self):
        self.assertEqual(((1, 0), []), popped([(1, 0)]))
        self.assertEqual(((1, 0), [(2, 1)]), popped([(1, 0), (2, 1)]))
        # Of two children that are equal the right one changes places, whatever the entry's own when is.
        self.assertEqual(((0, 0), [(1, 2), (1, 1), (1, 3)]), popped([(0, 0), (1, 1), (1, 2), (1, 3)]))
        # A child without a right one, and the way up again.
        self.assertEqual(((0, 0), [(1, 1), (2, 3), (9, 2)]), popped([(0, 0), (1, 1), (9, 2), (2, 3)]))

    def test_heaped(self):
        self.assertEqual([], heaped([]))
        self.assertEqual([(1, 2), (2, 1), (3, 0)], heaped([(3, 0), (2, 1), (1, 2)]))
        # Entries change places though they are equal.
        self.assertEqual([(1, 1), (1, 0)], heaped([(1, 0), (1, 1)]))
        self.assertEqual([(1, 2), (1, 1), (1, 0)], heaped([(1, 0), (1, 1), (1, 2)]))

    def test_not_first_in_first_out(self):
        rows = []
        for number in range(5):
            rows = pushed(rows, (1, number))
        order = []
        while rows:
            first, rows = popped(rows)
            order.append(first[1])
        self.assertEqual([0, 2, 4, 1, 3], order)

    def test_the_same_moves_as_heapq(self):
        draw = random.Random(1)
        for _ in range(300):
            rows = some_rows(draw)
            heap = entries(rows)
            heapq.heapify(heap)
            self.assertEqual(rows_of(heap), heaped(rows))
            self.assertTrue(is_heap(heaped(rows)))
            # For a list that is no heap the steps are the same.
            heap = entries(rows)
            heapq.heappush(heap, Entry((draw.randrange(-4, 9), 99)))
            self.assertEqual(rows_of(heap), pushed(rows, [row for row in rows_of(heap) if row[1] == 99][0]))
            if rows:
                heap = entries(rows)
                first = heapq.heappop(heap).row
                self.assertEqual((first, rows_of(heap)), popped(rows))

    def test_ripe(self):
        self.assertEqual(([], []), ripe([], 3))
        self.assertEqual(([], [(4, 0)]), ripe([(4, 0)], 3))
        self.assertEqual(([(3, 0)], [(4, 1)]), ripe([(3, 0), (4, 1)], 3))
        self.assertEqual(([(-5, 0)], []), ripe([(-5, 0)], -5))
        # An entry behind one that is not due stays, where the list is no heap.
        self.assertEqual(([], [(4, 0), (1, 1)]), ripe([(4, 0), (1, 1)], 3))
        draw = random.Random(2)
        for _ in range(100):
            rows, now = some_rows(draw), draw.randrange(-5, 10)
            heap, due = entries(rows), []
            while heap and heap[0].row[0] <= now:
                due.append(heapq.heappop(heap).row)
            self.assertEqual((due, rows_of(heap)), ripe(rows, now))


class SweptTest(unittest.TestCase):
    def test_the_top_is_popped_while_it_is_gone(self):
        self.assertEqual(([], 3), swept([], (1, 2), 3))
        self.assertEqual(([(1, 0), (2, 1)], 1), swept([(1, 0), (2, 1)], (1,), 1))
        self.assertEqual(([(2, 1)], 0), swept([(1, 0), (2, 1)], (0,), 1))
        self.assertEqual(([], -2), swept([(1, 0), (2, 1)], [0, 1], 0))
        self.assertEqual(([(3, 2)], 5), swept([(1, 0), (3, 2), (2, 1)], (0, 1), 7))

    def test_numbers_of_no_entry_have_no_effect(self):
        self.assertEqual(([(1, 0)], 4), swept([(1, 0)], (7, -1, 7), 4))

    def test_several_entries_of_one_number(self):
        self.assertEqual(([(3, 2)], 0), swept([(1, 1), (2, 1), (3, 2)], (1,), 2))

    def test_the_heap_is_rebuilt(self):
        rows = [(at // 2, at) for at in range(101)]
        gone = list(range(1, 101, 2))
        heap = [row for row in rows if row[1] % 2 == 0]
        self.assertEqual((heaped(heap), 0), swept(rows, gone, 51))
        # Not where twice the count is no more than their number, or where there are only 100.
        self.assertEqual((rows, 50), swept(rows, gone, 50))
        self.assertEqual((rows[:100], 51), swept(rows[:100], gone, 51))
        more = [*rows, (50, 101)]
        self.assertEqual((more, 51), swept(more, gone, 51))
        self.assertEqual((heaped([*heap]), 0), swept(more, [*gone, 101], 52))
        self.assertEqual((heaped(rows[:102]), 0), swept(rows, (), 10**30))

    def test_the_count_decides_and_not_the_cancelled_ones(self):
        rows = [(at, at) for at in range(120)]
        self.assertEqual(([], 0), swept(rows, tuple(range(120)), 61))
        self.assertEqual(([], -61), swept(rows, tuple(range(120)), 59))

    def test_what_is_left_is_made_a_heap_in_its_order(self):
        draw = random.Random(3)
        for _ in range(20):
            rows = [(draw.randrange(9), at) for at in range(draw.randrange(101, 140))]
            gone = tuple(draw.sample(range(140), 60))
            heap = entries([row for row in rows if row[1] not in gone])
            heapq.heapify(heap)
            self.assertEqual((rows_of(heap), 0), swept(rows, gone, 71))


class ArgumentsTest(unittest.TestCase):
    CALLS = ((is_heap,), (pushed, (1, 1)), (popped,), (heaped,), (ripe, 1), (swept, (), 0))

    def test_signatures(self):
        told = [str(inspect.signature(function)) for function in (is_heap, pushed, popped, heaped, ripe, swept)]
        self.assertEqual(["(rows)", "(rows, entry)", "(rows)", "(rows)", "(rows, now)", "(rows, gone, count)"], told)
        self.assertEqual([(1, 2)], pushed(rows=[], entry=(1, 2)))
        self.assertEqual(([], [(1, 2)]), ripe(rows=[(1, 2)], now=0))
        self.assertEqual(([(1, 2)], 0), swept(rows=[(1, 2)], gone=(), count=0))
        self.assertEqual((True, [], ((1, 2), [])), (is_heap(rows=[]), heaped(rows=[]), popped(rows=[(1, 2)])))

    def test_rows(self):
        wrong = [rows for rows in OBJECTS if not isinstance(rows, list)]
        wrong += [[entry] for entry in OBJECTS] + [[(1, 2), [1, 2]], [(1, 2), (1, True)], [(1, 2), (False, 1)], [(1,)],
                                                   [(1, 2, 3)], [(1, None)], [("1", 2)], [(1.0, 2)], ((1, 2),), {(1, 2)}]
        for rows in wrong:
            for function, *others in self.CALLS:
                self.assertRaises(BadValue, function, rows, *others)

    def test_the_number_of_rows(self):
        rows = [(at, at) for at in range(5000)]
        self.assertEqual(5001, len(pushed(rows, (0, 0))))
        self.assertTrue(is_heap(rows))
        self.assertEqual((4999, 5000), (len(popped(rows)[1]), len(heaped(rows))))
        self.assertEqual((rows, []), ripe(rows, 5000))
        self.assertEqual(([], -5000), swept(rows, tuple(range(5000)), 0))
        for function, *others in self.CALLS:
            self.assertRaises(BadValue, function, [*rows, (0, 0)], *others)

    def test_no_entry(self):
        self.assertRaises(BadValue, popped, [])

    def test_entry(self):
        for entry in (*OBJECTS, (1,), (1, 2, 3), (1, True), (None, 1), [1, 2], ("1", "2"), (1.0, 2)):
            self.assertRaises(BadValue, pushed, [(1, 1)], entry)
        self.assertEqual([(-10**30, -1)], pushed([], (-10**30, -1)))

    def test_now(self):
        for now in OBJECTS:
            if now != 1 or now is True:
                self.assertRaises(BadValue, ripe, [(1, 1)], now)

    def test_gone_and_count(self):
        for gone in OBJECTS:
            if gone not in ((), []):
                self.assertRaises(BadValue, swept, [(1, 1)], gone, 0)
        for gone in ((True,), [None], ("1",), (1, 2, 1.0), [(1,)]):
            self.assertRaises(BadValue, swept, [(1, 1)], gone, 0)
        for count in (*OBJECTS, -1):
            if count != 1 or count is True:
                self.assertRaises(BadValue, swept, [(1, 1)], (), count)

    def test_arguments_are_not_changed_and_lists_are_new(self):
        rows, gone = list(ENTRIES), [0]
        found = [pushed(rows, (1, 9)), popped(rows)[1], heaped(rows), *ripe(rows, 9), ripe(rows, 0)[1],
                 swept(rows, gone, 1)[0], swept(rows, [], 1)[0]]
        self.assertEqual((ENTRIES, [0]), (rows, gone))
        for heap in found:
            self.assertIsNot(rows, heap)
            self.assertIs(list, type(heap))
        self.assertEqual([tuple] * 3, [type(popped(rows)), type(ripe(rows, 1)), type(swept(rows, (), 1))])


if __name__ == "__main__":
    unittest.main()
