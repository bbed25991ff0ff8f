import unittest
from random import Random

from packedsets.sets import join, make
from tests.helper import EMPTY, ROOM, mixed_numbers, model_join, packed, packed_spans, parts_of
from tests.helper import shorter_as_runs, written


class JoinTest(unittest.TestCase):
    def check(self, a, b, a_runs=(), b_runs=()):
        left = packed(a, a_runs)
        right = packed(b, b_runs)
        for how in range(4):
            numbers = model_join(how, a, b)
            for runs in (0, 1):
                self.assertEqual(join(how, runs, ROOM, left, right), written(numbers, runs))

    def test_each_how(self):
        a = make(0, ROOM, [1, 2, 70000])[1:]
        b = make(0, ROOM, [2, 3, 70000])[1:]
        self.assertEqual(join(0, 0, ROOM, a, b), make(0, ROOM, [2, 70000]))
        self.assertEqual(join(1, 0, ROOM, a, b), make(0, ROOM, [1, 2, 3, 70000]))
        self.assertEqual(join(2, 0, ROOM, a, b), make(0, ROOM, [1, 3]))
        self.assertEqual(join(3, 0, ROOM, a, b), make(0, ROOM, [1]))
        self.assertEqual(join(3, 0, ROOM, b, a), make(0, ROOM, [3]))

    def test_bytes(self):
        a = [59, 48, 0, 0, 1, 0, 0, 9, 0, 1, 0, 5, 0, 9, 0]
        b = [58, 48, 0, 0, 1, 0, 0, 0, 0, 0, 1, 0, 16, 0, 0, 0, 4, 0, 14, 0]
        expected = [58, 48, 0, 0, 1, 0, 0, 0, 0, 0, 0, 0, 16, 0, 0, 0, 14, 0]
        self.assertEqual(join(0, 1, ROOM, a, b), [18] + expected)
        expected = [59, 48, 0, 0, 1, 0, 0, 10, 0, 1, 0, 4, 0, 10, 0]
        self.assertEqual(join(1, 1, ROOM, a, b), [15] + expected)

    def test_empty(self):
        numbers = [0, 5, 6, 7, 8, 131072, 4294967295]
        self.check(numbers, [])
        self.check([], numbers)
        self.check([], [])
        self.assertEqual(join(2, 1, ROOM, EMPTY, EMPTY), [8] + EMPTY)

    def test_same(self):
        numbers = list(range(100)) + list(range(65536, 131072, 3)) + [4294967295]
        self.check(numbers, numbers)
        self.check(numbers, numbers, [0], [1])
        self.check([0], [0])

    def test_at_the_ends(self):
        self.check([0, 4294967295], [4294967295])
        self.check([0, 65535, 65536, 4294967294], [0, 4294967295])
        self.check(list(range(4294901760, 4294967296)), [4294967295], [65535])

    def test_spans_over_parts(self):
        self.check(list(range(60000, 140000)), list(range(65536, 131072)), [0, 1, 2], [1])
        self.check(list(range(60000, 140000)), list(range(131072, 131080)), [0, 2])

    def test_each_pair_of_forms(self):
        sparse = list(range(0, 65536, 50))
        dense = list(range(0, 65536, 3)) + list(range(30000, 40000))
        spans = [low for low in range(65536) if low % 1000 < 400]
        shapes = ((sparse, ()), (sparse, (0,)), (dense, ()), (dense, (0,)), (spans, ()), (spans, (0,)))
        for a, a_runs in shapes:
            for b, b_runs in shapes:
                self.check(a, b, a_runs, b_runs)

    def test_runs_where_another_form_is_shorter(self):
        self.check([1, 3, 5], [3, 4], [0], [0])
        self.check(list(range(0, 65536, 2)), list(range(1, 65536, 2)), [0], [0])
        self.check(list(range(0, 65536, 2)), [], [0])

    def test_other_forms_where_runs_are_shorter(self):
        self.check(list(range(65536)), list(range(4096)))

    def test_three_and_four_parts_with_runs(self):
        for count in (1, 2, 3, 4, 5, 8, 9, 17):
            numbers = [65536 * key + low for key in range(count) for low in (1, 2, 9)]
            for marked in ([0], [count - 1], list(range(count)), list(range(0, count, 2))):
                self.check(numbers, [2, 65537], marked)
                self.check([9, 65536 * count], numbers, (), marked)

    def test_mixtures(self):
        random = Random(5)
        for i in range(25):
            a = mixed_numbers(random)
            b = mixed_numbers(random)
            a_runs = [key for key in range(6) if random.randrange(2)]
            b_runs = [key for key in range(6) if random.randrange(2)]
            self.check(a, b, a_runs, b_runs)

    def test_few_numbers_close_together(self):
        for bits in range(256):
            a = [65532 + i for i in range(8) if bits >> i & 1]
            self.check(a, [65534, 65535, 65536, 65538], parts_of(a))

    def test_large_sets_of_bits(self):
        a = [low for low in range(8 * 65536) if low % 2 == 0]
        b = [low for low in range(8 * 65536) if low % 3 != 0]
        left = packed(a)
        right = packed(b)
        self.assertEqual(len(left), 8 + 8 * 8 + 8 * 8192)
        for how in range(4):
            expected = written(model_join(how, a, b), 1)
            self.assertEqual(join(how, 1, 70000, left, right), expected)

    def test_large_lists(self):
        a = [65536 * key + 17 * i for key in range(9) for i in range(3800)]
        b = [65536 * key + 16 * i for key in range(9) for i in range(3800)]
        self.assertLessEqual(len(packed(a)), 70000)
        for how in (0, 3):
            expected = written(model_join(how, a, b), 0)
            self.assertEqual(join(how, 0, 70000, packed(a), packed(b)), expected)
        self.assertEqual(join(1, 0, 70000, packed(a), packed(b)), [-7])

    def test_hundreds_of_millions_of_numbers(self):
        # All but every thousandth part's first number, over 4900 parts.
        end = 4900 * 65536
        holes = [65536 * key for key in range(0, 4900, 1000)]
        spans = [(first + 1, last - 1) for first, last in zip(holes, holes[1:] + [end])]
        left = packed_spans(spans)
        right = packed_spans([(1000, end + 5)])
        self.assertLessEqual(max(len(left), len(right)), 70000)
        both = packed_spans([(1000, spans[0][1])] + spans[1:])
        self.assertEqual(join(0, 1, 70000, left, right), [len(both)] + both)
        either = packed_spans([(1, end + 5)])
        self.assertEqual(join(1, 1, 70000, left, right), [len(either)] + either)
        apart = list(range(1, 1000)) + holes[1:] + list(range(end - 0, end + 6))
        self.assertEqual(join(2, 1, 70000, left, right), written(apart, 1))
        self.assertEqual(join(2, 0, 70000, left, right), written(apart, 0))
        self.assertEqual(join(3, 1, 70000, left, right), written(range(1, 1000), 1))
        self.assertEqual(join(3, 1, 70000, left, left), [8] + EMPTY)
        self.assertEqual(join(0, 0, 70000, left, right), [-7])

    def test_what_is_written_is_read(self):
        random = Random(6)
        for i in range(20):
            numbers = mixed_numbers(random)
            for runs in (0, 1):
                found = make(runs, ROOM, numbers)
                self.assertEqual(join(1, runs, ROOM, found[1:], EMPTY), found)
                self.assertEqual(join(1, runs, ROOM, packed(numbers, shorter_as_runs(numbers)), EMPTY), found)

    def test_what_is_handed_in_stays(self):
        a = packed([1, 2, 3, 9, 70000], [0])
        b = packed([2, 3, 4])
        copies = [list(a), list(b)]
        for how in range(4):
            join(how, 1, ROOM, a, b)
            self.assertEqual([a, b], copies)
        found = join(1, 1, ROOM, a, a)
        found.append(0)
        self.assertEqual(a, copies[0])
        self.assertEqual(join(1, 1, ROOM, a, a), written([1, 2, 3, 9, 70000], 1))


if __name__ == "__main__":
    unittest.main()
