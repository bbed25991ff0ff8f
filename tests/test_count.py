import unittest
from random import Random

from packedsets.sets import count
from tests.helper import EMPTY, mixed_numbers, packed, packed_spans, parts_of

LAST = 4294967295


class CountTest(unittest.TestCase):
    def check(self, numbers, run_keys=()):
        self.assertEqual(count(packed(numbers, run_keys)), [len(set(numbers))])

    def test_bytes(self):
        self.assertEqual(count([58, 48, 0, 0, 1, 0, 0, 0, 0, 0, 1, 0, 16, 0, 0, 0, 4, 0, 6, 0]), [2])
        self.assertEqual(count([59, 48, 0, 0, 1, 0, 0, 9, 0, 1, 0, 5, 0, 9, 0]), [10])

    def test_none(self):
        self.assertEqual(count(EMPTY), [0])

    def test_one(self):
        for number in (0, 5, 65535, 65536, LAST):
            self.check([number])
            self.check([number], parts_of([number]))

    def test_each_form(self):
        for numbers in ([1, 5, 9], list(range(4095)), list(range(4096)), list(range(4097)), list(range(0, 65536, 3))):
            self.check(numbers)
            self.check(numbers, [0])

    def test_whole_part(self):
        self.assertEqual(count(packed(range(65536))), [65536])
        self.assertEqual(count(packed(range(65536), [0])), [65536])
        self.assertEqual(count(packed(range(65536 * 65535, 65536 * 65536), [65535])), [65536])
        self.check(list(range(65536 * 3)), [1])

    def test_spans_over_parts(self):
        self.check(list(range(65530, 65540)), [0, 1])
        self.check(list(range(60000, 200000)), [0, 2])

    def test_forms_together(self):
        numbers = [7, 9] + list(range(65536, 131072, 2)) + list(range(131072, 140000)) + [LAST]
        for run_keys in ((), [0], [1], [2], [65535], [0, 1, 2, 65535], [1, 2]):
            self.check(numbers, run_keys)

    def test_mixtures(self):
        random = Random(13)
        for i in range(40):
            self.check(mixed_numbers(random), [key for key in range(6) if random.randrange(2)])

    def test_hundreds_of_millions_of_numbers(self):
        a = packed_spans([(100, 300000000), (300000002, 310000000)])
        self.assertLessEqual(len(a), 70000)
        self.assertEqual(count(a), [300000000 - 99 + 310000000 - 300000001])
        a = packed_spans([(LAST - 299999999, LAST)])
        self.assertEqual(count(a), [300000000])

    def test_all_numbers(self):
        self.assertEqual(count(packed_spans([(0, LAST)])), [4294967296])
        self.assertEqual(count(packed_spans([(1, LAST)])), [4294967295])

    def test_many_parts(self):
        self.check([65536 * key + key for key in range(0, 6000, 2)])
        self.check([65536 * key + low for key in range(3000) for low in (0, 1)], range(3000))

    def test_large_set_of_bits(self):
        self.check(list(range(1, 8 * 65536, 2)))

    def test_what_is_handed_in_stays(self):
        a = packed([1, 2, 3, 9, 70000], [0])
        copy = list(a)
        found = count(a)
        found.append(0)
        self.assertEqual(a, copy)
        self.assertEqual(count(a), [5])


if __name__ == "__main__":
    unittest.main()
