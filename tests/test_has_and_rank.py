import unittest
from random import Random

from packedsets.sets import has, rank
from tests.helper import EMPTY, mixed_numbers, packed, packed_spans, parts_of

LAST = 4294967295


class HasAndRankTest(unittest.TestCase):
    def check(self, x, a, numbers):
        self.assertEqual(has(x, a), [1 if x in numbers else 0], x)
        self.assertEqual(rank(x, a), [sum(1 for number in numbers if number <= x)], x)

    def check_all(self, places, numbers, run_keys=()):
        a = packed(numbers, run_keys)
        for x in places:
            self.check(x, a, numbers)

    def test_bytes_of_a_list(self):
        a = [58, 48, 0, 0, 1, 0, 0, 0, 0, 0, 1, 0, 16, 0, 0, 0, 4, 0, 6, 0]
        self.assertEqual([has(x, a) for x in (3, 4, 5, 6, 7)], [[0], [1], [0], [1], [0]])
        self.assertEqual([rank(x, a) for x in (3, 4, 5, 6, 7)], [[0], [1], [1], [2], [2]])

    def test_bytes_of_runs(self):
        a = [59, 48, 0, 0, 1, 0, 0, 9, 0, 1, 0, 5, 0, 9, 0]
        self.assertEqual([has(x, a) for x in (4, 5, 9, 14, 15)], [[0], [1], [1], [1], [0]])
        self.assertEqual([rank(x, a) for x in (4, 5, 9, 14, 15)], [[0], [1], [5], [10], [10]])

    def test_empty(self):
        for x in (0, 1, 65535, 65536, LAST):
            self.assertEqual(has(x, EMPTY), [0])
            self.assertEqual(rank(x, EMPTY), [0])

    def test_at_the_ends(self):
        for numbers in ([0], [LAST], [0, LAST], [1, LAST - 1], [0, 1, 2, 70000, LAST - 1, LAST]):
            self.check_all((0, 1, 2, 65535, 70000, LAST - 1, LAST), numbers)
            self.check_all((0, 1, 2, 65535, 70000, LAST - 1, LAST), numbers, parts_of(numbers))

    def test_about_spans(self):
        numbers = [10, 11, 12, 13, 17, 20, 21]
        self.check_all(range(25), numbers)
        self.check_all(range(25), numbers, [0])

    def test_about_the_end_of_a_part(self):
        for numbers in (list(range(65530, 65540)), [65535], [65536], [65534, 65537], [65535, 65536]):
            self.check_all(range(65525, 65545), numbers)
            self.check_all(range(65525, 65545), numbers, parts_of(numbers))

    def test_key_without_a_part(self):
        numbers = [5, 65536 * 4 + 5]
        places = [65536 * key + low for key in (0, 1, 3, 4, 5, 65535) for low in (0, 4, 5, 6, 65535)]
        self.check_all(places, numbers)
        self.check_all(places, numbers, [4])

    def test_same_low_bits_of_another_key(self):
        self.assertEqual(has(65536 + 5, packed([5, 131077])), [0])
        self.assertEqual(has(5, packed([65541])), [0])

    def test_below_and_above_all(self):
        numbers = list(range(70000, 70010)) + [200000]
        for run_keys in ((), [1], [1, 3]):
            a = packed(numbers, run_keys)
            for x in (0, 65536, 69999):
                self.assertEqual(rank(x, a), [0])
            for x in (200000, 200001, 300000, LAST):
                self.assertEqual(rank(x, a), [11])
            self.assertEqual(rank(199999, a), [10])

    def test_bits(self):
        numbers = list(range(1, 65536, 3))
        for run_keys in ((), [0]):
            self.check_all((0, 1, 2, 3, 4, 5, 4095, 30000, 30001, 30002, 65534, 65535, 65536), numbers, run_keys)

    def test_whole_part(self):
        numbers = list(range(65536, 131072))
        for run_keys in ((), [1]):
            self.check_all((65534, 65535, 65536, 65537, 100000, 131070, 131071, 131072, 131073), numbers, run_keys)

    def test_mixtures(self):
        random = Random(16)
        for i in range(25):
            numbers = sorted(set(mixed_numbers(random)))
            run_keys = [key for key in range(6) if random.randrange(2)]
            places = [random.randrange(7 * 65536) for j in range(3)]
            for number in random.sample(numbers, min(3, len(numbers))):
                places.extend([number, number + 1, max(number - 1, 0)])
            self.check_all(places, numbers, run_keys)

    def test_hundreds_of_millions_of_numbers(self):
        a = packed_spans([(100, 300000000), (300000002, 310000000)])
        self.assertLessEqual(len(a), 70000)
        expected = (
            (0, 0, 0), (99, 0, 0), (100, 1, 1), (101, 1, 2), (65535, 1, 65436), (65536, 1, 65437),
            (200000000, 1, 199999901), (300000000, 1, 299999901), (300000001, 0, 299999901),
            (300000002, 1, 299999902), (310000000, 1, 309999900), (310000001, 0, 309999900), (LAST, 0, 309999900),
        )
        for x, inside, below in expected:
            self.assertEqual(has(x, a), [inside], x)
            self.assertEqual(rank(x, a), [below], x)

    def test_all_numbers(self):
        a = packed_spans([(0, LAST)])
        for x in (0, 65536, LAST):
            self.assertEqual(has(x, a), [1])
            self.assertEqual(rank(x, a), [x + 1])

    def test_what_is_handed_in_stays(self):
        a = packed([1, 2, 3, 9, 70000], [0])
        copy = list(a)
        for x in (0, 3, 4, LAST):
            for call in (has, rank):
                found = call(x, a)
                found.append(0)
                self.assertEqual(a, copy)
        self.assertEqual(has(3, a), [1])
        self.assertEqual(rank(3, a), [3])


if __name__ == "__main__":
    unittest.main()
