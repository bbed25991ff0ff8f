import unittest
from random import Random

from packedsets.sets import make, ranges, same
from tests.helper import EMPTY, ROOM, mixed_numbers, packed, packed_spans, parts_of

LAST = 4294967295


def model_same(a, b):
    a = set(a)
    b = set(b)
    if a and b and not a & b:
        return 0
    if a == b:
        return 1
    if a <= b:
        return 2
    return 3 if b <= a else 4


class SameTest(unittest.TestCase):
    def check(self, a, b, a_runs=(), b_runs=()):
        left = packed(a, a_runs)
        right = packed(b, b_runs)
        self.assertEqual(same(left, right), [model_same(a, b)])
        self.assertEqual(same(right, left), [model_same(b, a)])

    def answered(self, answer, a, b):
        turned = {2: 3, 3: 2}.get(answer, answer)
        for a_runs in ((), parts_of(a)):
            for b_runs in ((), parts_of(b)):
                self.assertEqual(same(packed(a, a_runs), packed(b, b_runs)), [answer])
                self.assertEqual(same(packed(b, b_runs), packed(a, a_runs)), [turned])

    def test_bytes(self):
        a = [59, 48, 0, 0, 1, 0, 0, 9, 0, 1, 0, 5, 0, 9, 0]
        b = [58, 48, 0, 0, 1, 0, 0, 0, 0, 0, 1, 0, 16, 0, 0, 0, 5, 0, 14, 0]
        self.assertEqual(same(a, b), [3])
        self.assertEqual(same(b, a), [2])
        b[16] = 4
        self.assertEqual(same(a, b), [4])
        b[18] = 15
        self.assertEqual(same(a, b), [0])
        self.assertEqual(same(a, a), [1])

    def test_both_empty(self):
        self.assertEqual(same(EMPTY, EMPTY), [1])
        self.assertEqual(same(EMPTY, list(EMPTY)), [1])

    def test_one_empty(self):
        for members in ([0], [LAST], [5, 6, 7, 70000], list(range(65536)), list(range(0, 65536, 3))):
            self.answered(3, members, [])

    def test_apart(self):
        self.answered(0, [5], [6])
        self.answered(0, [0], [LAST])
        self.answered(0, [1, 3, 5], [2, 4, 6])
        self.answered(0, [1, 3, 5], [65537, 65539, 65541])
        self.answered(0, list(range(65536)), list(range(65536, 131072)))
        self.answered(0, list(range(0, 65536, 2)), list(range(1, 65536, 2)))
        self.answered(0, list(range(10, 20)) + list(range(30, 40)), list(range(10)) + list(range(20, 30)) + [40])

    def test_same(self):
        for members in ([0], [LAST], [0, LAST], [5, 6, 7, 70000], list(range(65530, 131080))):
            self.answered(1, members, members)
        self.answered(1, list(range(0, 65536, 3)), list(range(0, 65536, 3)))

    def test_same_numbers_in_different_bytes(self):
        members = list(range(65530, 131080)) + [196607, 196608, 196609, LAST]
        forms = [packed(members, run_keys) for run_keys in ((), [0], [1], [0, 1, 2], [2, 3, 65535], parts_of(members))]
        for i, a in enumerate(forms):
            for j, b in enumerate(forms):
                self.assertEqual(a == b, i == j)
                self.assertEqual(same(a, b), [1])
        written = ranges(1, ROOM, [65530, 131079, 196607, 196609, LAST, LAST])[1:]
        self.assertEqual(same(written, forms[0]), [1])

    def test_within(self):
        self.answered(2, [5], [5, 6])
        self.answered(2, [6], [5, 6])
        self.answered(2, [0], [0, LAST])
        self.answered(2, [LAST], [0, LAST])
        self.answered(2, [6], [5, 6, 7])
        self.answered(2, [70000], [5, 70000, 140000])
        self.answered(2, list(range(1000, 2000)), list(range(65536)))
        self.answered(2, list(range(65536, 131072)), list(range(65535, 131073)))
        self.answered(2, list(range(0, 65536, 6)), list(range(0, 65536, 3)))
        self.answered(2, [5, 9], [5, 6, 7, 8, 9])

    def test_crossing(self):
        self.answered(4, [5, 6], [6, 7])
        self.answered(4, [5, 70000], [5, 70001])
        self.answered(4, [0, LAST], [0, 1])
        self.answered(4, [0, LAST], [1, LAST])
        self.answered(4, list(range(65536)), list(range(60000, 70000)))
        self.answered(4, list(range(0, 65536, 2)), list(range(0, 65536, 3)))
        self.answered(4, [5, 6, 7], [5, 7, 8])

    def test_few_numbers_close_together(self):
        for left in range(16):
            for right in range(16):
                a = [65534 + i for i in range(4) if left >> i & 1]
                b = [65534 + i for i in range(4) if right >> i & 1]
                self.check(a, b)
                self.check(a, b, parts_of(a), [0])

    def test_one_number_more(self):
        members = list(range(100, 300)) + list(range(65536, 131072, 3)) + [LAST - 7]
        for other in (0, 99, 300, 65535, 65537, 131071, 131072, LAST - 8, LAST - 6, LAST):
            self.check(members, sorted(members + [other]), [0], [1])

    def test_each_pair_of_forms(self):
        sparse = list(range(0, 65536, 50))
        dense = list(range(0, 65536, 5)) + list(range(30001, 30004))
        blocks = [low for low in range(65536) if low % 1000 < 400]
        shapes = [(lows, run_keys) for lows in (sparse, dense, blocks, list(range(65536))) for run_keys in ((), (0,))]
        for a, a_runs in shapes:
            for b, b_runs in shapes:
                self.check(a, b, a_runs, b_runs)

    def test_mixtures(self):
        random = Random(32)
        for i in range(12):
            a = sorted(set(mixed_numbers(random)))
            b = sorted(set(mixed_numbers(random)))
            a_runs = [key for key in range(6) if random.randrange(2)]
            b_runs = [key for key in range(6) if random.randrange(2)]
            self.check(a, b, a_runs, b_runs)
            self.check(a, a, a_runs, b_runs)
            self.check(a, a[:-1], a_runs, b_runs)
            self.check(a, sorted(set(a + b)), a_runs, b_runs)
            self.check(sorted(set(a) - set(b)), b, a_runs, b_runs)

    def test_hundreds_of_millions_of_numbers(self):
        a = packed_spans([(100, 300000000)])
        self.assertLessEqual(len(a), 70000)
        for pairs, answer in (
            ([(100, 300000000)], 1), ([(101, 300000000)], 3), ([(100, 299999999)], 3), ([(99, 300000000)], 2),
            ([(100, 300000001)], 2), ([(99, 299999999)], 4), ([(0, 99)], 0), ([(300000001, 310000000)], 0),
            ([(100, 300000000), (300000002, 300000002)], 2), ([(0, 100)], 4), ([(0, 98), (300000000, 300000001)], 4),
        ):
            b = packed_spans(pairs)
            self.assertEqual(same(a, b), [answer], pairs)
            self.assertEqual(same(b, a), [{2: 3, 3: 2}.get(answer, answer)], pairs)

    def test_what_was_made(self):
        a = make(0, ROOM, [3, 1, 2, 3, 70000])[1:]
        b = ranges(1, ROOM, [70000, 70000, 2, 3, 1, 2, 9, 8])[1:]
        self.assertEqual(same(a, b), [1])

    def test_what_is_handed_in_stays(self):
        a = packed([1, 2, 3, 9, 70000], [0])
        b = packed([2, 3])
        copies = [list(a), list(b)]
        for left, right in ((a, b), (b, a), (a, a), (a, [])):
            found = same(left, right)
            found.append(0)
            self.assertEqual([a, b], copies)
        self.assertEqual(same(a, b), [3])


if __name__ == "__main__":
    unittest.main()
