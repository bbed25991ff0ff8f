import unittest
from random import Random

from packedsets.sets import make
from tests.helper import EMPTY, ROOM, packed, written


class MakeTest(unittest.TestCase):
    def check(self, numbers):
        for runs in (0, 1):
            self.assertEqual(make(runs, ROOM, numbers), written(numbers, runs))

    def test_no_numbers(self):
        self.assertEqual(make(0, ROOM, []), [8] + EMPTY)
        self.assertEqual(make(1, ROOM, []), [8] + EMPTY)

    def test_bytes_of_a_list(self):
        expected = [58, 48, 0, 0, 1, 0, 0, 0, 1, 0, 2, 0, 16, 0, 0, 0, 5, 0, 7, 0, 0, 2]
        self.assertEqual(make(0, ROOM, [66048, 65541, 65543]), [22] + expected)
        self.assertEqual(make(1, ROOM, [66048, 65541, 65543]), [22] + expected)

    def test_bytes_of_runs(self):
        expected = [59, 48, 0, 0, 1, 1, 0, 3, 0, 1, 0, 5, 0, 3, 0]
        self.assertEqual(make(1, ROOM, [65541, 65542, 65543, 65544]), [15] + expected)

    def test_any_order_and_some_twice(self):
        self.check([9, 3, 9, 70000, 3, 4, 70000, 1])
        self.check([5, 5, 5, 5])
        self.check(list(range(1000, 0, -1)) * 2)

    def test_numbers_at_the_ends(self):
        expected = [58, 48, 0, 0, 2, 0, 0, 0, 0, 0, 0, 0, 255, 255, 0, 0, 24, 0, 0, 0, 26, 0, 0, 0, 0, 0, 255, 255]
        self.assertEqual(make(0, ROOM, [4294967295, 0]), [28] + expected)
        self.check([0])
        self.check([4294967295])
        self.check([65535, 65536])

    def test_4096_are_a_list_and_4097_are_bits(self):
        numbers = list(range(3, 3 + 2 * 4096, 2))
        self.assertEqual(make(0, ROOM, numbers)[0], 16 + 8192)
        self.assertEqual(make(0, ROOM, numbers)[17:21], [3, 0, 5, 0])
        self.check(numbers)
        numbers.append(65535)
        self.assertEqual(make(0, ROOM, numbers)[0], 16 + 8192)
        self.assertEqual(make(0, ROOM, numbers)[17:21], [0b10101000, 0b10101010, 0b10101010, 0b10101010])
        self.assertEqual(make(0, ROOM, numbers)[-1], 128)
        self.check(numbers)

    def test_4095_are_a_list(self):
        self.check(list(range(0, 2 * 4095, 2)))
        self.assertEqual(make(0, ROOM, list(range(0, 2 * 4095, 2)))[0], 16 + 8190)

    def test_runs_as_long_as_a_list_are_not_written(self):
        # A run of three is 6 bytes, and so is a list of three.
        self.assertEqual(make(1, ROOM, [1, 2, 3]), [22] + packed([1, 2, 3]))
        # Two runs are 10 bytes: as long as a list of five, shorter than one of six.
        self.assertEqual(make(1, ROOM, [1, 2, 3, 7, 8]), written([1, 2, 3, 7, 8], 0))
        self.assertEqual(make(1, ROOM, [1, 2, 3, 7, 8, 9]), [19] + packed([1, 2, 3, 7, 8, 9], [0]))

    def test_runs_shorter_by_little_are_written(self):
        self.assertEqual(make(1, ROOM, [1, 2, 3, 4]), [15] + packed([1, 2, 3, 4], [0]))

    def test_runs_beside_bits(self):
        # 2047 runs are 8190 bytes, 2048 are 8194: one less and one more than bits have.
        for count, as_runs in ((2047, [0]), (2048, [])):
            numbers = []
            for i in range(count):
                numbers.extend([5 * i, 5 * i + 1, 5 * i + 2])
            self.assertEqual(make(1, ROOM, numbers)[1:], packed(numbers, as_runs))
            self.assertEqual(make(0, ROOM, numbers)[1:], packed(numbers))

    def test_just_the_shorter_parts_are_runs(self):
        numbers = [1, 5, 9] + list(range(65536, 65536 + 100)) + [200000, 200002]
        self.assertEqual(make(1, ROOM, numbers)[1:], packed(numbers, [1]))
        self.check(numbers)

    def test_three_parts_tell_no_places_and_four_do(self):
        three = list(range(10)) + [65536, 131072]
        four = three + [196608]
        self.assertEqual(make(1, ROOM, three)[0], 4 + 1 + 3 * 4 + 6 + 2 + 2)
        self.assertEqual(make(1, ROOM, four)[0], 4 + 1 + 4 * 4 + 4 * 4 + 6 + 2 + 2 + 2)
        for numbers in (three, four, three + [4294967295], [65536, 131072, 196608] + list(range(10))):
            self.check(numbers)

    def test_three_plain_parts_tell_places(self):
        self.assertEqual(make(1, ROOM, [1, 65536, 131072])[0], 8 + 3 * 8 + 3 * 2)
        self.check([1, 65536, 131072])

    def test_nine_parts_want_two_bytes_of_bits(self):
        for count in (7, 8, 9, 16, 17):
            numbers = [65536 * key for key in range(count - 1)]
            numbers += list(range(65536 * (count - 1), 65536 * (count - 1) + 10))
            self.check(numbers)
        nine = [65536 * key for key in range(8)] + list(range(65536 * 8, 65536 * 8 + 10))
        self.assertEqual(make(1, ROOM, nine)[1:7], [59, 48, 8, 0, 0, 1])
        self.assertEqual(make(1, ROOM, nine)[0], 4 + 2 + 9 * 8 + 8 * 2 + 6)

    def test_many_parts(self):
        self.check([65536 * key + key for key in range(0, 6000, 2)])
        self.check([65536 * key + low for key in range(300) for low in range(5)])

    def test_20000_numbers(self):
        random = Random(1)
        self.check([random.randrange(200000) for i in range(20000)])
        self.check([random.randrange(30000) for i in range(20000)])

    def test_mixtures(self):
        random = Random(2)
        for i in range(200):
            numbers = []
            for j in range(random.randrange(12)):
                first = random.choice((0, 65536, 4294901760, 65536 * random.randrange(20))) + random.randrange(65500)
                step = random.choice((1, 1, 2, 7))
                numbers.extend(range(first, min(first + step * random.randrange(9), 4294967296), step))
            random.shuffle(numbers)
            self.check(numbers)

    def test_what_is_handed_in_stays(self):
        numbers = [5, 3, 5, 70000]
        make(1, ROOM, numbers)
        self.assertEqual(numbers, [5, 3, 5, 70000])

    def test_nothing_is_kept(self):
        first = make(1, ROOM, [1, 2, 3, 4])
        first.append(99)
        make(0, ROOM, [7])
        self.assertEqual(make(1, ROOM, [1, 2, 3, 4]), written([1, 2, 3, 4], 1))


if __name__ == "__main__":
    unittest.main()
