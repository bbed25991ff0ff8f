import unittest
from random import Random

from packedsets.sets import least
from tests.helper import EMPTY, mixed_numbers, packed, packed_spans, parts_of, runs_of

LAST = 4294967295


def model_least(start, inside, members):
    if inside:
        return min((member for member in members if member >= start), default=-5)
    members = set(members)
    while start in members:
        start += 1
    return start if start <= LAST else -5


class LeastTest(unittest.TestCase):
    def check(self, starts, members, run_keys=()):
        a = packed(members, run_keys)
        for start in starts:
            for inside in (0, 1):
                self.assertEqual(least(start, inside, a), [model_least(start, inside, members)], (start, inside))

    def test_bytes_of_a_list(self):
        a = [58, 48, 0, 0, 1, 0, 0, 0, 0, 0, 1, 0, 16, 0, 0, 0, 4, 0, 6, 0]
        self.assertEqual([least(start, 1, a) for start in range(3, 8)], [[4], [4], [6], [6], [-5]])
        self.assertEqual([least(start, 0, a) for start in range(3, 8)], [[3], [5], [5], [7], [7]])

    def test_bytes_of_runs(self):
        a = [59, 48, 0, 0, 1, 0, 0, 9, 0, 1, 0, 5, 0, 9, 0]
        self.assertEqual([least(start, 1, a) for start in (0, 4, 5, 9, 14, 15)], [[5], [5], [5], [9], [14], [-5]])
        self.assertEqual([least(start, 0, a) for start in (0, 4, 5, 9, 14, 15)], [[0], [4], [15], [15], [15], [15]])

    def test_empty(self):
        for start in (0, 1, 65535, 65536, LAST):
            self.assertEqual(least(start, 1, EMPTY), [-5])
            self.assertEqual(least(start, 0, EMPTY), [start])

    def test_about_spans(self):
        members = [10, 11, 12, 13, 17, 20, 21]
        self.check(range(25), members)
        self.check(range(25), members, [0])

    def test_at_the_ends(self):
        for members in ([0], [LAST], [0, LAST], [1, LAST - 1], [0, 1, 2, 70000, LAST - 2, LAST - 1, LAST]):
            for run_keys in ((), parts_of(members)):
                self.check((0, 1, 2, 3, 65535, 70000, 70001, LAST - 3, LAST - 2, LAST - 1, LAST), members, run_keys)

    def test_none_inside_behind_the_last(self):
        for members in ([5], [5, 6, 7, 8], list(range(100, 70000)), list(range(0, 65536, 3))):
            for run_keys in ((), parts_of(members)):
                a = packed(members, run_keys)
                last = members[-1]
                self.assertEqual(least(last, 1, a), [last])
                for start in (last + 1, last + 65536, LAST - 1, LAST):
                    self.assertEqual(least(start, 1, a), [-5])
                    self.assertEqual(least(start, 0, a), [start])

    def test_none_outside_up_to_the_last(self):
        a = packed([5] + list(range(LAST - 69999, LAST + 1)), [65534, 65535])
        for start in (LAST - 69999, LAST - 65536, LAST - 65535, LAST - 1, LAST):
            self.assertEqual(least(start, 0, a), [-5])
            self.assertEqual(least(start, 1, a), [start])
        self.assertEqual(least(LAST - 70000, 0, a), [LAST - 70000])
        self.assertEqual(least(LAST - 70000, 1, a), [LAST - 69999])
        self.assertEqual(least(LAST, 0, packed([LAST])), [-5])
        self.assertEqual(least(LAST - 1, 0, packed([LAST - 1])), [LAST])
        self.assertEqual(least(LAST, 0, packed([LAST - 1])), [LAST])

    def test_span_over_the_ends_of_parts(self):
        members = list(range(65530, 196613))
        starts = (65529, 65530, 65535, 65536, 100000, 131071, 131072, 196607, 196608, 196612, 196613)
        for run_keys in ((), [0], [1], [2, 3], [0, 1, 2, 3]):
            a = packed(members, run_keys)
            for start in starts[1:-1]:
                self.assertEqual(least(start, 0, a), [196613])
            self.check(starts, members, run_keys)

    def test_about_the_end_of_a_part(self):
        for members in ([65535], [65536], [65534, 65537], [65535, 65536], [65535, 131072]):
            self.check(range(65530, 65540), members)
            self.check(range(65530, 65540), members, parts_of(members))

    def test_key_without_a_part(self):
        members = [5, 65536 * 4 + 5]
        starts = [65536 * key + low for key in (0, 1, 3, 4, 5, 65535) for low in (0, 4, 5, 6, 65535)]
        self.check(starts, members)
        self.check(starts, members, [4])

    def test_bits(self):
        members = list(range(1, 30000, 3)) + list(range(40000, 50000))
        for run_keys in ((), [0]):
            self.check((0, 1, 2, 29998, 29999, 39999, 40000, 45000, 49999, 50000, 65535), members, run_keys)

    def test_mixtures(self):
        random = Random(22)
        for i in range(20):
            members = sorted(set(mixed_numbers(random)))
            run_keys = [key for key in range(6) if random.randrange(2)]
            starts = [random.randrange(7 * 65536) for j in range(2)]
            spans = runs_of(members)
            for first, last in random.sample(spans, min(2, len(spans))):
                starts.extend([max(first - 1, 0), first, (first + last) // 2, last, last + 1])
            self.check(starts, members, run_keys)

    def test_hundreds_of_millions_of_numbers(self):
        a = packed_spans([(100, 300000000), (300000002, 310000000)])
        self.assertLessEqual(len(a), 70000)
        expected = (
            (0, 100, 0), (99, 100, 99), (100, 100, 300000001), (65536, 65536, 300000001),
            (300000000, 300000000, 300000001), (300000001, 300000002, 300000001),
            (300000002, 300000002, 310000001), (310000000, 310000000, 310000001), (310000001, -5, 310000001),
            (LAST, -5, LAST),
        )
        for start, inside, outside in expected:
            self.assertEqual(least(start, 1, a), [inside], start)
            self.assertEqual(least(start, 0, a), [outside], start)

    def test_millions_up_to_the_last(self):
        a = packed_spans([(LAST - 299999999, LAST)])
        self.assertLessEqual(len(a), 70000)
        self.assertEqual(least(0, 1, a), [LAST - 299999999])
        self.assertEqual(least(LAST - 300000000, 0, a), [LAST - 300000000])
        for start in (LAST - 299999999, LAST - 65536, LAST):
            self.assertEqual(least(start, 0, a), [-5])

    def test_what_is_handed_in_stays(self):
        a = packed([1, 2, 3, 9, 70000], [0])
        copy = list(a)
        for start in (0, 2, 9, 70001, LAST):
            for inside in (-1, 0, 1):
                found = least(start, inside, a)
                found.append(0)
                self.assertEqual(a, copy)
        self.assertEqual(least(2, 0, a), [4])
        self.assertEqual(least(4, 1, a), [9])


if __name__ == "__main__":
    unittest.main()
