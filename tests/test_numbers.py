import unittest
from random import Random

from packedsets.sets import make, numbers
from tests.helper import EMPTY, ROOM, mixed_numbers, packed, packed_spans, parts_of

LAST = 4294967295


class NumbersTest(unittest.TestCase):
    def check_one(self, start, room, a, members):
        listed = [member for member in members if member >= start][:room]
        self.assertEqual(numbers(start, room, a), [len(listed)] + listed, (start, room))

    def check(self, starts, members, run_keys=()):
        a = packed(members, run_keys)
        for start in starts:
            behind = sum(1 for member in members if member >= start)
            for room in {0, 1, 2, max(behind - 1, 0), behind, behind + 1, 20000}:
                self.check_one(start, min(room, 20000), a, members)

    def test_bytes_of_a_list(self):
        a = [58, 48, 0, 0, 1, 0, 0, 0, 0, 0, 1, 0, 16, 0, 0, 0, 4, 0, 6, 0]
        self.assertEqual(numbers(0, 20000, a), [2, 4, 6])
        self.assertEqual(numbers(4, 1, a), [1, 4])
        self.assertEqual(numbers(5, 9, a), [1, 6])
        self.assertEqual(numbers(7, 9, a), [0])

    def test_bytes_of_runs(self):
        a = [59, 48, 0, 0, 1, 0, 0, 9, 0, 1, 0, 5, 0, 9, 0]
        self.assertEqual(numbers(0, 10, a), [10, 5, 6, 7, 8, 9, 10, 11, 12, 13, 14])
        self.assertEqual(numbers(0, 9, a), [9, 5, 6, 7, 8, 9, 10, 11, 12, 13])
        self.assertEqual(numbers(12, 11, a), [3, 12, 13, 14])

    def test_no_room(self):
        a = packed([1, 2, 3, 70000])
        for start in (0, 2, 4, 70000, 70001, LAST):
            self.assertEqual(numbers(start, 0, a), [0])
            self.assertEqual(numbers(start, 0, EMPTY), [0])

    def test_empty(self):
        for start in (0, 1, 65536, LAST):
            for room in (0, 1, 20000):
                self.assertEqual(numbers(start, room, EMPTY), [0])

    def test_about_spans(self):
        members = [10, 11, 12, 13, 17, 20, 21]
        for run_keys in ((), [0]):
            a = packed(members, run_keys)
            for start in range(25):
                for room in range(10):
                    self.check_one(start, room, a, members)

    def test_at_the_ends(self):
        for members in ([0], [LAST], [0, LAST], [0, 1, 2, 70000, LAST - 2, LAST - 1, LAST]):
            for run_keys in ((), parts_of(members)):
                self.check((0, 1, 2, 3, 65535, 70000, 70001, LAST - 3, LAST - 1, LAST), members, run_keys)

    def test_ahead_of_all_and_behind_all(self):
        members = list(range(70000, 70010)) + [200000]
        for run_keys in ((), [1], [1, 3]):
            a = packed(members, run_keys)
            for start in (0, 65535, 65536, 69999, 70000):
                self.assertEqual(numbers(start, 11, a), [11] + members)
                self.assertEqual(numbers(start, 10, a), [10] + members[:10])
            self.assertEqual(numbers(200000, 11, a), [1, 200000])
            for start in (200001, 262144, LAST):
                self.assertEqual(numbers(start, 11, a), [0])

    def test_over_the_ends_of_parts(self):
        members = list(range(65500, 131100)) + [196607, 196608]
        for run_keys in ((), [0], [1], [0, 1, 2, 3]):
            self.check((0, 65499, 65500, 65535, 65536, 120000, 131071, 131072, 131100, 196608), members, run_keys)

    def test_each_form(self):
        for lows in (range(0, 65536, 50), range(1, 65536, 4), range(30000, 40000), range(65536)):
            members = [65536 * 7 + low for low in lows]
            starts = (0, 65536 * 7, 65536 * 7 + 35000, 65536 * 8 - 1, 65536 * 8)
            self.check(starts, members)
            self.check(starts, members, [7])

    def test_mixtures(self):
        random = Random(23)
        for i in range(12):
            members = sorted(set(mixed_numbers(random)))
            run_keys = [key for key in range(6) if random.randrange(2)]
            starts = [0, random.randrange(7 * 65536)] + random.sample(members, min(2, len(members)))
            self.check(starts, members, run_keys)

    def test_as_many_as_are_ever_asked(self):
        for members in (list(range(0, 60000, 3)), list(range(5, 20005)), list(range(0, 20001 * 40, 40))):
            a = packed(members)
            self.assertLessEqual(len(a), 70000)
            for start in (0, 5, 6):
                self.check_one(start, 20000, a, members)
                self.check_one(start, 19999, a, members)

    def test_more_room_than_numbers(self):
        self.assertEqual(numbers(2, ROOM, packed([1, 2, 3, 70000])), [3, 2, 3, 70000])

    def test_hundreds_of_millions_of_numbers(self):
        a = packed_spans([(100, 300000000), (300000002, 310000000)])
        self.assertLessEqual(len(a), 70000)
        self.assertEqual(numbers(0, 3, a), [3, 100, 101, 102])
        self.assertEqual(numbers(65535, 2, a), [2, 65535, 65536])
        self.assertEqual(numbers(299999999, 4, a), [4, 299999999, 300000000, 300000002, 300000003])
        self.assertEqual(numbers(300000001, 1, a), [1, 300000002])
        self.assertEqual(numbers(309999999, 3, a), [2, 309999999, 310000000])
        self.assertEqual(numbers(310000001, 3, a), [0])
        self.assertEqual(numbers(200000000, 20000, a), [20000] + list(range(200000000, 200020000)))
        self.assertEqual(numbers(0, 0, a), [0])

    def test_what_was_made_is_listed(self):
        for runs in (0, 1):
            a = make(runs, ROOM, [9, 3, 70000, 4, 3, LAST, 0])[1:]
            self.assertEqual(numbers(0, 20000, a), [6, 0, 3, 4, 9, 70000, LAST])

    def test_what_is_handed_in_stays(self):
        a = packed([1, 2, 3, 9, 70000], [0])
        copy = list(a)
        for start in (0, 2, 70001):
            for room in (-1, 0, 2, 20000):
                found = numbers(start, room, a)
                found.append(0)
                self.assertEqual(a, copy)
        self.assertEqual(numbers(2, 3, a), [3, 2, 3, 9])


if __name__ == "__main__":
    unittest.main()
