import unittest
from random import Random

from packedsets.sets import flip
from tests.helper import EMPTY, ROOM, mixed_numbers, model_flip, packed, packed_spans, parts_of, written

LAST = 4294967295


class FlipTest(unittest.TestCase):
    def check(self, start, to, numbers, run_keys=()):
        expected = model_flip(start, to, numbers)
        a = packed(numbers, run_keys)
        for runs in (0, 1):
            self.assertEqual(flip(start, to, runs, ROOM, a), written(expected, runs))

    def check_twice(self, start, to, numbers, run_keys=()):
        a = packed(numbers, run_keys)
        for runs in (0, 1):
            once = flip(start, to, runs, ROOM, a)
            self.assertEqual(flip(start, to, runs, ROOM, once[1:]), written(numbers, runs))

    def test_bytes(self):
        a = [58, 48, 0, 0, 1, 0, 0, 0, 0, 0, 1, 0, 16, 0, 0, 0, 4, 0, 6, 0]
        expected = [58, 48, 0, 0, 1, 0, 0, 0, 0, 0, 2, 0, 16, 0, 0, 0, 4, 0, 5, 0, 7, 0]
        self.assertEqual(flip(5, 7, 0, ROOM, a), [22] + expected)
        expected = [59, 48, 0, 0, 1, 0, 0, 5, 0, 2, 0, 4, 0, 1, 0, 7, 0, 3, 0]
        self.assertEqual(flip(5, 10, 1, ROOM, a), [19] + expected)

    def test_empty(self):
        self.check(5, 9, [])
        self.check(0, 0, [])
        self.check(LAST, LAST, [])
        self.check(0, 65535, [])
        self.check(60000, 200000, [])
        self.assertEqual(flip(9, 5, 0, ROOM, EMPTY), [8] + EMPTY)
        self.assertEqual(flip(5, 9, 0, ROOM, packed([5, 6, 7, 8, 9])), [8] + EMPTY)

    def test_first_is_last(self):
        for number in (0, 4, 5, 6, 8, 9, 65535, 65536, 70000, LAST - 1, LAST):
            for numbers in ([], [5, 6, 7, 8], [0, LAST], [65535], [65536], [65535, 65536]):
                self.check(number, number, numbers)
                self.check(number, number, numbers, parts_of(numbers))

    def test_first_is_greater(self):
        numbers = [0, 5, 6, 7, 8, 70000, LAST]
        for start, to in ((1, 0), (6, 5), (9, 4), (70000, 7), (LAST, 0), (LAST, LAST - 1), (65536, 65535)):
            for runs in (0, 1):
                self.assertEqual(flip(start, to, runs, ROOM, packed(numbers)), written(numbers, runs))
                self.assertEqual(flip(start, to, runs, ROOM, EMPTY), [8] + EMPTY)

    def test_nothing_flipped_is_written_anew(self):
        numbers = list(range(100)) + [70000, 70002]
        self.assertEqual(flip(1, 0, 0, ROOM, packed(numbers, [0, 1])), written(numbers, 0))
        self.assertEqual(flip(1, 0, 1, ROOM, packed(numbers, [1])), written(numbers, 1))

    def test_bounds_about_spans(self):
        numbers = [10, 11, 12, 13, 17, 20, 21]
        for start in range(8, 24):
            for to in range(8, 24):
                self.check(start, to, numbers)
                self.check(start, to, numbers, [0])

    def test_bounds_about_the_end_of_a_part(self):
        for numbers in ([65533, 65534, 65535, 65536, 65537], [65535], [65536], [65534, 65537]):
            for start in range(65531, 65540):
                for to in range(65531, 65540):
                    self.check(start, to, numbers, parts_of(numbers))

    def test_at_the_ends(self):
        for numbers in ([], [0], [LAST], [0, 1, LAST - 1, LAST], [1, LAST - 1]):
            self.check(0, 0, numbers)
            self.check(0, 1, numbers)
            self.check(LAST, LAST, numbers)
            self.check(LAST - 1, LAST, numbers)
            self.check(LAST - 70000, LAST, numbers)

    def test_whole(self):
        size = 4 + 8192 + 65536 * 8 + 65536 * 6
        expected = packed_spans([(0, LAST)])
        self.assertEqual(flip(0, LAST, 1, size, EMPTY), [size] + expected)
        self.assertEqual(flip(0, LAST, 1, size - 1, EMPTY), [-7])
        self.assertEqual(flip(0, LAST, 1, 70000, EMPTY), [-7])
        self.assertEqual(flip(0, LAST, 1, 0, EMPTY), [-7])
        self.assertEqual(flip(0, LAST, 1, ROOM, expected), [8] + EMPTY)

    def test_whole_without_runs(self):
        for room in (0, 70000, ROOM):
            self.assertEqual(flip(0, LAST, 0, room, EMPTY), [-7])
            self.assertEqual(flip(0, LAST, 0, room, packed([0, 5, 70000, LAST])), [-7])

    def test_whole_of_a_set(self):
        numbers = [0, 5, 6, 7, 65535, 65536, 131072, 4294901760, LAST - 1]
        spans = [(1, 4), (8, 65534), (65537, 131071), (131073, 4294901759), (4294901761, LAST - 2), (LAST, LAST)]
        found = flip(0, LAST, 1, ROOM, packed(numbers))
        # Its last part has two runs, shorter than bits, so all parts are runs.
        expected = packed_spans(spans)
        self.assertEqual(found, [len(expected)] + expected)
        self.assertEqual(flip(0, LAST, 0, ROOM, expected), written(numbers, 0))

    def test_over_several_parts(self):
        numbers = list(range(60000, 70000)) + [131071, 131072] + list(range(262144, 300000, 3))
        for start, to in ((0, 400000), (65536, 131071), (65535, 131072), (65000, 280000), (100000, 262143)):
            self.check(start, to, numbers)
            self.check(start, to, numbers, [0, 1, 4])

    def test_over_parts_that_are_not_there(self):
        numbers = [5, 65536 * 4 + 7]
        for start, to in ((65536, 131071), (65536, 65536 * 3 - 1), (70000, 70003), (6, 65536 * 4 + 6),
                          (65536 * 5, 65536 * 6), (0, 65536 * 5)):
            self.check(start, to, numbers)
            self.check(start, to, numbers, [0])

    def test_each_form(self):
        dense = list(range(0, 65536, 2))
        self.check(0, 65535, dense)
        self.check(0, 65535, dense, [0])
        self.check(1000, 50000, dense)
        # 4096 numbers become 4097 and the other way round: a list and bits.
        numbers = list(range(0, 8192, 2))
        self.check(1, 1, numbers)
        self.check(1, 1, numbers + [1])
        self.check(0, 65535, list(range(61440)))
        self.check(0, 65535, list(range(61439)))

    def test_twice(self):
        numbers = list(range(60000, 70000, 3)) + list(range(131000, 132000)) + [LAST]
        for start, to in ((0, 0), (0, 200000), (60000, 60000), (65536, 131071), (131500, 131072), (LAST - 9, LAST)):
            self.check_twice(start, to, numbers)
            self.check_twice(start, to, numbers, [0, 2])
            self.check_twice(start, to, [])

    def test_mixtures(self):
        random = Random(11)
        for i in range(25):
            numbers = mixed_numbers(random)
            run_keys = [key for key in range(6) if random.randrange(2)]
            start = random.randrange(7 * 65536)
            to = random.choice((start + random.randrange(100), random.randrange(7 * 65536)))
            self.check(start, to, numbers, run_keys)
            self.check_twice(start, to, numbers, run_keys)

    def test_hundreds_of_millions_of_numbers(self):
        a = packed_spans([(1000, 300000000)])
        expected = packed_spans([(1000, 4999), (200000001, 300000000)])
        self.assertEqual(flip(5000, 200000000, 1, 70000, a), [len(expected)] + expected)
        self.assertEqual(flip(1000, 300000000, 1, 70000, a), [8] + EMPTY)
        apart = list(range(1000)) + list(range(300000001, 300000010))
        self.assertEqual(flip(0, 300000009, 0, 70000, a), written(apart, 0))
        self.assertEqual(flip(5000, 5000, 0, 70000, a), [-7])

    def test_large_set_of_bits(self):
        numbers = list(range(1, 8 * 65536, 2))
        a = packed(numbers)
        self.assertEqual(flip(0, 8 * 65536 - 1, 1, 70000, a), written(range(0, 8 * 65536, 2), 1))

    def test_what_is_handed_in_stays(self):
        a = packed([1, 2, 3, 9, 70000], [0])
        copy = list(a)
        for start, to in ((0, 5), (5, 0), (0, LAST)):
            flip(start, to, 1, 70000, a)
            self.assertEqual(a, copy)
        found = flip(5, 0, 1, ROOM, a)
        found.append(0)
        self.assertEqual(a, copy)
        self.assertEqual(flip(5, 0, 1, ROOM, a), written([1, 2, 3, 9, 70000], 1))


if __name__ == "__main__":
    unittest.main()
