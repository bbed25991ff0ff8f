import unittest
from random import Random

from packedsets.sets import ranges
from tests.helper import EMPTY, ROOM, packed_spans, written


class RangesTest(unittest.TestCase):
    def check(self, x):
        numbers = []
        for i in range(0, len(x), 2):
            numbers.extend(range(x[i], x[i + 1] + 1))
        for runs in (0, 1):
            self.assertEqual(ranges(runs, ROOM, x), written(numbers, runs))

    def test_none(self):
        self.assertEqual(ranges(0, ROOM, []), [8] + EMPTY)
        self.assertEqual(ranges(1, ROOM, []), [8] + EMPTY)

    def test_bytes_of_one(self):
        self.assertEqual(ranges(1, ROOM, [5, 300]), [15, 59, 48, 0, 0, 1, 0, 0, 39, 1, 1, 0, 5, 0, 39, 1])

    def test_single_numbers(self):
        self.check([7, 7])
        self.check([0, 0, 4294967295, 4294967295])

    def test_overlap(self):
        self.check([10, 50, 20, 30])
        self.check([20, 30, 10, 50])
        self.check([10, 50, 30, 80])
        self.check([30, 80, 10, 50])
        self.check([10, 50, 50, 60])
        self.check([10, 50, 10, 60, 10, 40])

    def test_touch(self):
        self.check([10, 50, 51, 80])
        self.check([51, 80, 10, 50])
        self.check([10, 50, 52, 80])
        self.check([0, 65535, 65536, 65540])

    def test_over_several_parts(self):
        self.check([65000, 140000])
        self.check([65535, 65536])
        self.check([65536, 131071])
        self.check([4294900000, 4294967295])
        self.check([60000, 70000, 131000, 400000, 69000, 80000])

    def test_first_is_greater(self):
        self.assertEqual(ranges(0, ROOM, [5, 4]), [8] + EMPTY)
        self.assertEqual(ranges(1, ROOM, [4294967295, 0]), [8] + EMPTY)
        self.check([5, 4, 10, 20, 30, 15, 18, 25])
        # A pair of none joins nothing and cuts nothing.
        self.check([10, 20, 22, 21, 23, 30])
        self.check([10, 20, 15, 5])

    def test_whole_part(self):
        self.check([0, 65535])
        self.check([65536, 131070])

    def test_whole_with_little_room(self):
        self.assertEqual(ranges(0, 70000, [0, 4294967295]), [-7])
        self.assertEqual(ranges(1, 70000, [0, 4294967295]), [-7])
        self.assertEqual(ranges(0, 0, [0, 4294967295]), [-7])
        self.assertEqual(ranges(0, ROOM, [0, 4294967295]), [-7])

    def test_long_spans_as_runs(self):
        x = [100, 300000000, 300000002, 310000000]
        expected = packed_spans([(100, 300000000), (300000002, 310000000)])
        self.assertEqual(ranges(1, 70000, x), [len(expected)] + expected)

    def test_many_pairs(self):
        random = Random(3)
        x = []
        for i in range(15500):
            first = random.randrange(500000)
            x.extend([first, first + random.randrange(-3, 6) if first > 3 else first])
        self.check(x)

    def test_mixtures(self):
        random = Random(4)
        for i in range(80):
            x = []
            for j in range(random.randrange(10)):
                first = 65536 * random.randrange(4) + random.choice((0, 65530, 100)) + random.randrange(6)
                x.extend([first, max(0, first + random.choice((-1, 0, 1, 2, 5, 70000)))])
            self.check(x)

    def test_what_is_handed_in_stays(self):
        x = [50, 60, 10, 55, 9, 8]
        ranges(1, ROOM, x)
        self.assertEqual(x, [50, 60, 10, 55, 9, 8])


if __name__ == "__main__":
    unittest.main()
