import unittest
from random import Random

from packedsets.sets import common, count, join
from tests.helper import EMPTY, ROOM, mixed_numbers, model_join, packed, packed_spans, parts_of

LAST = 4294967295


class CommonTest(unittest.TestCase):
    def check(self, a, b, a_runs=(), b_runs=()):
        left = packed(a, a_runs)
        right = packed(b, b_runs)
        for how in range(4):
            self.assertEqual(common(how, left, right), [len(model_join(how, a, b))])

    def test_bytes(self):
        a = [59, 48, 0, 0, 1, 0, 0, 9, 0, 1, 0, 5, 0, 9, 0]
        b = [58, 48, 0, 0, 1, 0, 0, 0, 0, 0, 1, 0, 16, 0, 0, 0, 4, 0, 14, 0]
        self.assertEqual([common(how, a, b) for how in range(4)], [[1], [11], [10], [9]])
        self.assertEqual([common(how, b, a) for how in range(4)], [[1], [11], [10], [1]])

    def test_empty(self):
        numbers = [0, 5, 6, 7, 8, 131072, LAST]
        a = packed(numbers)
        self.assertEqual([common(how, a, EMPTY) for how in range(4)], [[0], [7], [7], [7]])
        self.assertEqual([common(how, EMPTY, a) for how in range(4)], [[0], [7], [7], [0]])
        self.assertEqual([common(how, EMPTY, EMPTY) for how in range(4)], [[0], [0], [0], [0]])

    def test_same(self):
        numbers = list(range(100)) + list(range(65536, 131072, 3)) + [LAST]
        self.check(numbers, numbers)
        self.check(numbers, numbers, [0], [1])
        self.check([0], [0])
        a = packed([3, 4, 70000])
        self.assertEqual([common(how, a, a) for how in range(4)], [[3], [3], [0], [0]])

    def test_one_within_the_other(self):
        a = packed(range(1000, 2000), [0])
        b = packed(range(65536))
        self.assertEqual([common(how, a, b) for how in range(4)], [[1000], [65536], [64536], [0]])
        self.assertEqual([common(how, b, a) for how in range(4)], [[1000], [65536], [64536], [64536]])
        self.check([5, 70000], [4, 5, 6, 70000, 200000])

    def test_nothing_in_common(self):
        self.check([1, 3, 5], [2, 4, 6])
        self.check([1, 3, 5], [65537, 65539])
        self.check(list(range(65536)), list(range(65536, 131072)), [0], [1])

    def test_at_the_ends(self):
        self.check([0, LAST], [LAST])
        self.check([0, 65535, 65536, LAST - 1], [0, LAST])
        self.check(list(range(4294901760, 4294967296)), [LAST], [65535])

    def test_spans_over_parts(self):
        self.check(list(range(60000, 140000)), list(range(65536, 131072)), [0, 1, 2], [1])
        self.check(list(range(60000, 140000)), list(range(131072, 131080)), [0, 2])

    def test_each_pair_of_forms(self):
        sparse = list(range(0, 65536, 50))
        dense = list(range(0, 65536, 3)) + list(range(30000, 40000))
        spans = [low for low in range(65536) if low % 1000 < 400]
        shapes = ((sparse, ()), (sparse, (0,)), (dense, ()), (dense, (0,)), (spans, ()), (spans, (0,)))
        for a, a_runs in shapes:
            for b, b_runs in shapes:
                self.check(a, b, a_runs, b_runs)

    def test_few_numbers_close_together(self):
        for bits in range(256):
            a = [65532 + i for i in range(8) if bits >> i & 1]
            self.check(a, [65534, 65535, 65536, 65538], parts_of(a))

    def test_mixtures(self):
        random = Random(14)
        for i in range(25):
            a = mixed_numbers(random)
            b = mixed_numbers(random)
            a_runs = [key for key in range(6) if random.randrange(2)]
            b_runs = [key for key in range(6) if random.randrange(2)]
            self.check(a, b, a_runs, b_runs)

    def test_as_many_as_joined(self):
        random = Random(15)
        for i in range(10):
            a = packed(mixed_numbers(random))
            b = packed(mixed_numbers(random), [0, 2])
            for how in range(4):
                self.assertEqual(common(how, a, b), count(join(how, 1, ROOM, a, b)[1:]))

    def test_large_sets_of_bits(self):
        a = list(range(0, 8 * 65536, 2))
        b = [low for low in range(8 * 65536) if low % 3 != 0]
        self.check(a, b)

    def test_large_lists(self):
        a = [65536 * key + 17 * i for key in range(9) for i in range(3800)]
        b = [65536 * key + 16 * i for key in range(9) for i in range(3800)]
        self.assertLessEqual(len(packed(a)), 70000)
        self.check(a, b)

    def test_hundreds_of_millions_of_numbers(self):
        left = packed_spans([(100, 300000000), (300000002, 310000000)])
        right = packed_spans([(1100, 320000000)])
        self.assertLessEqual(max(len(left), len(right)), 70000)
        both = 310000000 - 1099 - 1
        amounts = [[both], [320000000 - 99], [320000000 - 99 - both], [1000]]
        self.assertEqual([common(how, left, right) for how in range(4)], amounts)
        amounts[3] = [10000001]
        self.assertEqual([common(how, right, left) for how in range(4)], amounts)

    def test_far_apart(self):
        left = packed_spans([(0, 300000000)])
        right = packed_spans([(LAST - 299999999, LAST)])
        amounts = [[0], [600000001], [600000001], [300000001]]
        self.assertEqual([common(how, left, right) for how in range(4)], amounts)

    def test_what_is_handed_in_stays(self):
        a = packed([1, 2, 3, 9, 70000], [0])
        b = packed([2, 3, 4])
        copies = [list(a), list(b)]
        for how in range(4):
            found = common(how, a, b)
            found.append(0)
            self.assertEqual([a, b], copies)
        self.assertEqual(common(1, a, b), [6])
        self.assertEqual(common(1, a, a), [5])


if __name__ == "__main__":
    unittest.main()
