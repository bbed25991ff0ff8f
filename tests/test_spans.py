import unittest
from random import Random

from packedsets.sets import make, ranges, spans
from tests.helper import EMPTY, ROOM, mixed_numbers, model_spans, packed, packed_spans, parts_of, runs_of

LAST = 4294967295


class SpansTest(unittest.TestCase):
    def check(self, starts, members, run_keys=()):
        a = packed(members, run_keys)
        for start in starts:
            behind = model_spans(start, ROOM, members)[0]
            for room in {0, 1, 2, max(behind - 1, 0), behind, behind + 1, ROOM}:
                self.assertEqual(spans(start, room, a), model_spans(start, room, members), (start, room))

    def test_bytes_of_a_list(self):
        a = [58, 48, 0, 0, 1, 0, 0, 0, 0, 0, 2, 0, 16, 0, 0, 0, 4, 0, 6, 0, 7, 0]
        self.assertEqual(spans(0, ROOM, a), [2, 4, 4, 6, 7])
        self.assertEqual(spans(4, 1, a), [1, 4, 4])
        self.assertEqual(spans(5, 9, a), [1, 6, 7])
        self.assertEqual(spans(7, 9, a), [1, 7, 7])
        self.assertEqual(spans(8, 9, a), [0])

    def test_bytes_of_runs(self):
        a = [59, 48, 0, 0, 1, 0, 0, 9, 0, 1, 0, 5, 0, 9, 0]
        self.assertEqual(spans(0, 1, a), [1, 5, 14])
        self.assertEqual(spans(0, 0, a), [0])
        self.assertEqual(spans(12, 2, a), [1, 12, 14])

    def test_empty(self):
        for start in (0, 1, 65536, LAST):
            for room in (0, 1, ROOM):
                self.assertEqual(spans(start, room, EMPTY), [0])

    def test_about_spans(self):
        members = [10, 11, 12, 13, 17, 20, 21]
        self.check(range(25), members)
        self.check(range(25), members, [0])

    def test_how_many_there_is_room_for(self):
        a = packed_spans([(3, 9), (20, 20), (65530, 65540), (131071, 131072), (LAST - 5, LAST)])
        pairs = [3, 9, 20, 20, 65530, 65540, 131071, 131072, LAST - 5, LAST]
        for room in range(5):
            self.assertEqual(spans(0, room, a), [room] + pairs[:2 * room])
            self.assertEqual(spans(3, room, a), [room] + pairs[:2 * room])
        for room in (5, 6, 7, 20000, 16777215, 16777216):
            self.assertEqual(spans(0, room, a), [5] + pairs)
        for room in range(4):
            self.assertEqual(spans(10, room, a), [room] + pairs[2:2 + 2 * room])
        self.assertEqual(spans(65535, 2, a), [2, 65535, 65540, 131071, 131072])

    def test_first_is_cut(self):
        a = packed_spans([(100, 200), (300, 400)])
        expected = (
            (0, 100), (99, 100), (100, 100), (101, 101), (150, 150), (199, 199), (200, 200),
        )
        for start, first in expected:
            self.assertEqual(spans(start, 1, a), [1, first, 200])
            self.assertEqual(spans(start, 2, a), [2, first, 200, 300, 400])
        for start, first in ((201, 300), (299, 300), (300, 300), (301, 301), (400, 400)):
            self.assertEqual(spans(start, 2, a), [1, first, 400])
        for start in (401, 402, 65536, LAST):
            self.assertEqual(spans(start, 2, a), [0])

    def test_at_the_ends(self):
        for members in ([0], [LAST], [0, LAST], [1, LAST - 1], [0, 1, 2, 70000, LAST - 2, LAST - 1, LAST]):
            for run_keys in ((), parts_of(members)):
                self.check((0, 1, 2, 3, 65535, 70000, 70001, LAST - 3, LAST - 1, LAST), members, run_keys)
        self.assertEqual(spans(LAST, 1, packed([LAST - 1, LAST])), [1, LAST, LAST])
        self.assertEqual(spans(0, 1, packed([0])), [1, 0, 0])

    def test_over_one_end_of_parts(self):
        members = list(range(65530, 65540))
        for run_keys in ((), [0], [1], [0, 1]):
            a = packed(members, run_keys)
            self.assertEqual(spans(0, ROOM, a), [1, 65530, 65539])
            self.assertEqual(spans(65535, ROOM, a), [1, 65535, 65539])
            self.assertEqual(spans(65536, ROOM, a), [1, 65536, 65539])
            self.check(range(65528, 65542), members, run_keys)

    def test_up_to_an_end_and_from_it_on(self):
        for members in ([65534, 65535], [65536, 65537], [65535, 65537], [65534, 65536], [65535, 131072]):
            self.check(range(65533, 65539), members)
            self.check(range(65533, 65539), members, parts_of(members))

    def test_over_several_ends_of_parts(self):
        members = list(range(65530, 262150))
        starts = (65530, 65536, 100000, 196608, 262143, 262144, 262149, 262150)
        for run_keys in ((), [0], [1, 2], [3], [0, 1, 2, 3, 4]):
            self.assertEqual(spans(0, ROOM, packed(members, run_keys)), [1, 65530, 262149])
            self.check(starts, members, run_keys)

    def test_over_an_end_between_each_two_forms(self):
        few = list(range(65000, 65536)) + list(range(65536, 66000))
        many = list(range(60000, 65536)) + list(range(65536, 70000))
        for members in (few, many, few + many, list(range(65000, 70000)), list(range(60000, 66000))):
            members = sorted(set(members))
            for run_keys in ((), [0], [1], [0, 1]):
                self.assertEqual(spans(0, ROOM, packed(members, run_keys)), [1, members[0], members[-1]])

    def test_missing_part_between(self):
        members = list(range(65536)) + list(range(131072, 196608))
        for run_keys in ((), [0], [2], [0, 2]):
            a = packed(members, run_keys)
            self.assertEqual(spans(0, ROOM, a), [2, 0, 65535, 131072, 196607])
            self.assertEqual(spans(65536, ROOM, a), [1, 131072, 196607])

    def test_many_spans(self):
        members = list(range(0, 8 * 65536, 2))
        a = packed(members)
        self.assertLessEqual(len(a), 70000)
        for start, room in ((0, ROOM), (0, 262144), (0, 262143), (1, ROOM), (400001, 9)):
            self.assertEqual(spans(start, room, a), model_spans(start, room, members))

    def test_mixtures(self):
        random = Random(31)
        for i in range(8):
            members = sorted(set(mixed_numbers(random)))
            run_keys = [key for key in range(6) if random.randrange(2)]
            starts = [0, random.randrange(7 * 65536)]
            pairs = runs_of(members)
            for first, last in random.sample(pairs, min(1, len(pairs))):
                starts.extend([first, (first + last) // 2, last, last + 1])
            self.check(starts, members, run_keys)

    def test_hundreds_of_millions_of_numbers(self):
        a = packed_spans([(100, 300000000), (300000002, 310000000)])
        self.assertLessEqual(len(a), 70000)
        self.assertEqual(spans(0, ROOM, a), [2, 100, 300000000, 300000002, 310000000])
        self.assertEqual(spans(65536, 1, a), [1, 65536, 300000000])
        self.assertEqual(spans(300000001, 2, a), [1, 300000002, 310000000])
        self.assertEqual(spans(310000000, 2, a), [1, 310000000, 310000000])
        self.assertEqual(spans(310000001, 2, a), [0])

    def test_all_numbers(self):
        a = packed_spans([(0, LAST)])
        for start in (0, 65536, LAST):
            self.assertEqual(spans(start, ROOM, a), [1, start, LAST])

    def test_what_was_made_is_told(self):
        for runs in (0, 1):
            a = make(runs, ROOM, [9, 3, 70000, 4, 3, LAST, 0])[1:]
            self.assertEqual(spans(0, ROOM, a), [5, 0, 0, 3, 4, 9, 9, 70000, 70000, LAST, LAST])
            a = ranges(runs, ROOM, [5, 70000, 9, 3, 70001, 70003, 70005, 70005])[1:]
            self.assertEqual(spans(0, ROOM, a), [2, 5, 70003, 70005, 70005])

    def test_what_is_handed_in_stays(self):
        a = packed([1, 2, 3, 9, 70000], [0])
        copy = list(a)
        for start in (0, 2, 70001):
            for room in (-1, 0, 2, ROOM):
                found = spans(start, room, a)
                found.append(0)
                self.assertEqual(a, copy)
        self.assertEqual(spans(2, 2, a), [2, 2, 3, 9, 9])


if __name__ == "__main__":
    unittest.main()
