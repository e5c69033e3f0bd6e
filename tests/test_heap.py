"""The list whose least entry is found soon."""

import random
import unittest

from callruns.heap import pop_least, push


class HeapTest(unittest.TestCase):
    def test_least_comes_first(self):
        source = random.Random(23)
        for count in list(range(12)) + [100, 500]:
            entries = [source.randrange(60) for _ in range(count)]
            heap = []
            for entry in entries:
                push(heap, entry)
            self.assertEqual([pop_least(heap) for _ in range(count)], sorted(entries))
            self.assertEqual(heap, [])

    def test_pushed_and_popped_in_turn(self):
        source = random.Random(29)
        heap, left = [], []
        for _ in range(2000):
            if left and source.randrange(5) < 2:
                self.assertEqual(pop_least(heap), min(left))
                left.remove(min(left))
            else:
                entry = source.randrange(1000)
                push(heap, entry)
                left.append(entry)


if __name__ == "__main__":
    unittest.main()
