"""[42]: queues."""

import random
import unittest

from helper import Case
from nonearer.errors import Refused
from nonearer.queue import Queue


class QueueTest(Case):

    def test_entries_come_in_order(self):
        queue = Queue(((3, "b"), (1, "z"), (3, "a")))
        self.same(queue.how_many(), 3)
        self.same(queue.first(), (1, "z"))
        self.same(queue.how_many(), 3)
        self.assertIsNone(queue.put((2, "q")))
        self.assertEqual([queue.take() for _ in range(4)], [(1, "z"), (2, "q"), (3, "a"), (3, "b")])
        self.same(queue.how_many(), 0)

    def test_an_empty_queue(self):
        for entries in ((), []):
            queue = Queue(entries)
            self.same(queue.how_many(), 0)
            self.same(queue.listed(), ())
            self.same(queue.take_all(), ())
            self.refuses(Refused("empty"), queue.first)
            self.refuses(Refused("empty"), queue.take)
            queue.put(5)
            self.same(queue.take(), 5)
            self.refuses(Refused("empty"), queue.take)

    def test_equal_entries(self):
        queue = Queue([2, 1, 2, 1])
        self.same(queue.listed(), (1, 1, 2, 2))
        queue.put(1)
        self.same(queue.take(), 1)
        self.same(queue.take_all(), (1, 1, 2, 2))
        self.same(queue.listed(), ())

    def test_listing_leaves_and_taking_all_takes(self):
        queue = Queue(("b", "a"))
        self.same(queue.listed(), ("a", "b"))
        self.same(queue.listed(), ("a", "b"))
        self.same(queue.take_all(), ("a", "b"))
        self.same(queue.how_many(), 0)
        queue.put("c")
        self.same(queue.listed(), ("c",))

    def test_the_argument_is_not_changed_and_does_not_matter_later(self):
        entries = [3, 1, 2]
        queue = Queue(entries=entries)
        queue.take()
        queue.put(entry=7)
        self.assertEqual(entries, [3, 1, 2])
        entries.append(0)
        entries[0] = -5
        self.same(queue.listed(), (2, 3, 7))

    def test_two_queues_are_apart(self):
        entries = (3, 1)
        one, other = Queue(entries), Queue(entries)
        one.take_all()
        self.same(other.listed(), (1, 3))

    def test_it_keeps_no_attribute(self):
        self.assertFalse(hasattr(Queue((1,)), "entries"))

    def test_against_a_sorted_list(self):
        draw = random.Random(42)
        for _ in range(30):
            entries = [draw.randint(0, 9) for _ in range(draw.randint(0, 12))]
            queue = Queue(entries)
            for _ in range(60):
                deed = draw.randint(0, 9)
                if deed < 5:
                    entries.append(draw.randint(0, 9))
                    queue.put(entries[-1])
                elif deed < 9 and entries:
                    entries.sort()
                    self.same(queue.first(), entries[0])
                    self.same(queue.take(), entries.pop(0))
                self.same(queue.listed(), tuple(sorted(entries)))
                self.same(queue.how_many(), len(entries))
            self.same(queue.take_all(), tuple(sorted(entries)))


if __name__ == "__main__":
    unittest.main()
