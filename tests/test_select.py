import unittest
from random import Random

from packedsets.sets import count, rank, select
from tests.helper import EMPTY, mixed_numbers, packed, packed_spans, parts_of, runs_of

LAST = 4294967295
GREATEST = 18446744073709551615


class SelectTest(unittest.TestCase):
    def check(self, i, a, members):
        self.assertEqual(select(i, a), [members[i]] if i < len(members) else [-5], i)

    def check_all(self, members, run_keys=()):
        a = packed(members, run_keys)
        for i in range(len(members) + 3):
            self.check(i, a, members)
        self.check(GREATEST, a, members)

    def check_ends(self, a, members):
        size = len(members)
        for i in (0, 1, size // 2, size - 2, size - 1, size, size + 1, 65536 + size, LAST, LAST + 1, GREATEST):
            self.check(max(i, 0), a, members)

    def test_bytes_of_a_list(self):
        a = [58, 48, 0, 0, 1, 0, 0, 0, 0, 0, 1, 0, 16, 0, 0, 0, 4, 0, 6, 0]
        self.assertEqual([select(i, a) for i in range(4)], [[4], [6], [-5], [-5]])

    def test_bytes_of_runs(self):
        a = [59, 48, 0, 0, 1, 0, 0, 9, 0, 1, 0, 5, 0, 9, 0]
        self.assertEqual([select(i, a) for i in (0, 1, 8, 9, 10, 11)], [[5], [6], [13], [14], [-5], [-5]])

    def test_empty(self):
        for i in (0, 1, 65535, 65536, LAST, LAST + 1, GREATEST - 1, GREATEST):
            self.assertEqual(select(i, EMPTY), [-5])

    def test_one_number(self):
        for member in (0, 1, 65535, 65536, LAST - 1, LAST):
            self.check_all([member])
            self.check_all([member], [member >> 16])

    def test_at_the_ends(self):
        for members in ([0, LAST], [1, LAST - 1], [0, 1, 2, 70000, LAST - 1, LAST]):
            self.check_all(members)
            self.check_all(members, parts_of(members))

    def test_about_spans(self):
        members = [10, 11, 12, 13, 17, 20, 21]
        self.check_all(members)
        self.check_all(members, [0])

    def test_about_the_end_of_a_part(self):
        for members in (list(range(65530, 65540)), [65535, 65536], [65534, 65537], [65535, 131072]):
            self.check_all(members)
            for key in parts_of(members):
                self.check_all(members, [key])
            self.check_all(members, parts_of(members))

    def test_each_form(self):
        for lows in (range(0, 65536, 50), range(1, 65536, 3), range(30000, 50000), range(65536)):
            members = [65536 * 7 + low for low in lows]
            self.check_ends(packed(members), members)
            self.check_ends(packed(members, [7]), members)

    def test_key_without_a_part(self):
        members = [5, 65536 * 4 + 5, 65536 * 65535]
        self.check_all(members)
        self.check_all(members, [4])

    def test_mixtures(self):
        random = Random(21)
        for i in range(25):
            members = sorted(set(mixed_numbers(random)))
            run_keys = [key for key in range(6) if random.randrange(2)]
            a = packed(members, run_keys)
            self.check_ends(a, members)
            place = {member: i for i, member in enumerate(members)}
            spans = runs_of(members)
            for first, last in random.sample(spans, min(2, len(spans))):
                self.check(place[first], a, members)
                self.check(place[last], a, members)

    def test_first_and_last_of_each_span(self):
        spans = [(3, 9), (20, 20), (65530, 65540), (131071, 131072), (200000, 400000), (LAST - 5, LAST)]
        a = packed_spans(spans)
        passed = 0
        for first, last in spans:
            self.assertEqual(select(passed, a), [first])
            passed += last - first + 1
            self.assertEqual(select(passed - 1, a), [last])
        self.assertEqual(select(passed, a), [-5])

    def test_hundreds_of_millions_of_numbers(self):
        a = packed_spans([(100, 300000000), (300000002, 310000000)])
        self.assertLessEqual(len(a), 70000)
        expected = (
            (0, 100), (1, 101), (65435, 65535), (65436, 65536), (199999900, 200000000), (299999900, 300000000),
            (299999901, 300000002), (309999898, 309999999), (309999899, 310000000), (309999900, -5),
            (309999901, -5), (LAST, -5), (LAST + 1, -5), (GREATEST, -5),
        )
        for i, found in expected:
            self.assertEqual(select(i, a), [found], i)

    def test_all_numbers(self):
        a = packed_spans([(0, LAST)])
        for i in (0, 65536, LAST):
            self.assertEqual(select(i, a), [i])
        for i in (LAST + 1, GREATEST):
            self.assertEqual(select(i, a), [-5])

    def test_rank_of_what_is_selected(self):
        a = packed(list(range(0, 300000, 7)) + list(range(400000, 500000)), [6, 7])
        size = count(a)[0]
        for i in (0, 1, 9362, 9363, 42857, 42858, 100000, size - 1):
            self.assertEqual(rank(select(i, a)[0], a), [i + 1])

    def test_what_is_handed_in_stays(self):
        a = packed([1, 2, 3, 9, 70000], [0])
        copy = list(a)
        for i in (0, 3, 4, 5, GREATEST):
            found = select(i, a)
            found.append(0)
            self.assertEqual(a, copy)
        self.assertEqual(select(3, a), [9])
        self.assertEqual(select(5, a), [-5])


if __name__ == "__main__":
    unittest.main()
