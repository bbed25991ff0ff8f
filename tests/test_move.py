import unittest
from random import Random

from packedsets.sets import move
from tests.helper import EMPTY, ROOM, mixed_numbers, model_move, packed, packed_spans, parts_of, written

LAST = 4294967295
ALL = 4294967296


class MoveTest(unittest.TestCase):
    def check(self, by, numbers, run_keys=()):
        expected = model_move(by, numbers)
        a = packed(numbers, run_keys)
        for runs in (0, 1):
            self.assertEqual(move(by, runs, ROOM, a), written(expected, runs))

    def test_bytes(self):
        a = [58, 48, 0, 0, 1, 0, 0, 0, 0, 0, 1, 0, 16, 0, 0, 0, 4, 0, 6, 0]
        expected = [58, 48, 0, 0, 1, 0, 0, 0, 0, 0, 1, 0, 16, 0, 0, 0, 7, 0, 9, 0]
        self.assertEqual(move(3, 0, ROOM, a), [20] + expected)
        expected = [58, 48, 0, 0, 1, 0, 0, 0, 0, 0, 0, 0, 16, 0, 0, 0, 1, 0]
        self.assertEqual(move(-5, 1, ROOM, a), [18] + expected)
        a = [59, 48, 0, 0, 1, 0, 0, 9, 0, 1, 0, 5, 0, 9, 0]
        expected = [59, 48, 0, 0, 1, 1, 0, 9, 0, 1, 0, 7, 0, 9, 0]
        self.assertEqual(move(65538, 1, ROOM, a), [15] + expected)

    def test_empty(self):
        for by in (-ALL, -1, 0, 1, 65536, ALL):
            for runs in (0, 1):
                self.assertEqual(move(by, runs, ROOM, EMPTY), [8] + EMPTY)

    def test_by_none(self):
        self.check(0, [0, 5, 6, 7, 8, 70000, LAST])
        self.check(0, [0, 5, 6, 7, 8, 70000, LAST], [0])
        self.check(0, list(range(65536)), [0])
        self.check(0, list(range(65530, 65540)), [0, 1])

    def test_up_and_down(self):
        spans = list(range(65530, 65540)) + list(range(131072, 131080)) + [196607, 196609, 300000]
        dense = list(range(65536, 131072, 3))
        for numbers in (spans, dense, list(range(65536, 131072))):
            for by in (1, 2, 7, 1000, 65535, 65536, 65537, 131072, 4294600000):
                for run_keys in ((), parts_of(numbers)):
                    self.check(by, numbers, run_keys)
                    self.check(-by, numbers, run_keys)

    def test_over_the_end_of_a_part(self):
        # Within a part ahead of the move and over two behind it, and the other way round.
        self.check(4, list(range(65525, 65536)), [0])
        self.check(-4, list(range(65536, 65550)), [1])
        self.check(6, list(range(65530, 65540)), [0, 1])
        self.check(-4, list(range(65530, 65540)), [0, 1])
        self.check(-5, list(range(65530, 65540)), [0, 1])
        self.check(1, list(range(65536)), [0])
        self.check(-1, list(range(65536, 131072)), [1])

    def test_away_from_the_end_of_a_part(self):
        # Side by side over the end of a part is one run behind the move, with a gap it's two.
        self.assertEqual(move(2, 1, ROOM, packed([65534, 65535, 65536, 65537], [0, 1])),
                         [15] + packed([65536, 65537, 65538, 65539], [1]))
        self.check(2, [65534, 65535, 65537, 65538])

    def test_all_small_moves(self):
        for bits in range(256):
            numbers = [65532 + i for i in range(8) if bits >> i & 1]
            for by in (-5, -4, -3, 3, 4, 5):
                self.check(by, numbers, parts_of(numbers))

    def test_fall_off_below(self):
        for by in range(-12, 1):
            self.check(by, [0, 1, 2, 5, 6, 7, 8, 10])
            self.check(by, [0, 1, 2, 5, 6, 7, 8, 10], [0])
        self.check(-65536, list(range(60000, 70000)), [0, 1])
        self.check(-65537, list(range(60000, 70000)))
        self.check(-70000, list(range(60000, 70000)))
        self.check(-69999, list(range(60000, 70000)))

    def test_fall_off_above(self):
        numbers = [LAST - i for i in (0, 1, 2, 5, 6, 7, 8, 10)]
        for by in range(13):
            self.check(by, numbers)
            self.check(by, numbers, [65535])
        numbers = list(range(LAST - 70000, LAST - 60000))
        for by in (60000, 60001, 60002, 65535, 65536, 65537, 69999, 70000, 70001):
            self.check(by, numbers)

    def test_from_end_to_end(self):
        numbers = [0, 1, LAST - 1, LAST]
        for by in (LAST - 1, LAST, ALL):
            self.check(by, numbers)
            self.check(-by, numbers)
        self.assertEqual(move(LAST, 0, ROOM, packed([0, 1])), written([LAST], 0))
        self.assertEqual(move(-LAST, 0, ROOM, packed([LAST - 1, LAST])), written([0], 0))

    def test_all_fall_off(self):
        for numbers in ([0], [LAST], [0, 5, 70000, LAST], list(range(65536))):
            for runs in (0, 1):
                self.assertEqual(move(ALL, runs, ROOM, packed(numbers)), [8] + EMPTY)
                self.assertEqual(move(-ALL, runs, ROOM, packed(numbers)), [8] + EMPTY)

    def test_too_far(self):
        a = packed([5])
        for by in (ALL + 1, -ALL - 1, 9223372036854775807, -9223372036854775808):
            for runs in (0, 1):
                self.assertEqual(move(by, runs, ROOM, a), [-2])
                self.assertEqual(move(by, runs, ROOM, EMPTY), [-2])

    def test_other_forms_behind_the_move(self):
        # 4097 numbers are bits, halved they are lists; 4096 in two parts are lists, in one a list, one more bits.
        numbers = list(range(61440, 61440 + 2 * 4097, 2))
        for by in (-100, -4097, -4098, 0, 1000, 4095):
            self.check(by, [65536 + number for number in numbers])
        self.check(-(LAST - 8190), list(range(LAST - 2 * 4097, LAST, 2)))

    def test_mixtures(self):
        random = Random(12)
        for i in range(25):
            numbers = mixed_numbers(random)
            run_keys = [key for key in range(6) if random.randrange(2)]
            for by in (random.randrange(-300, 300), random.randrange(-400000, 400000), LAST - random.randrange(400000)):
                self.check(by, numbers, run_keys)

    def test_hundreds_of_millions_of_numbers(self):
        a = packed_spans([(100, 300000000), (300000002, 310000000)])
        expected = packed_spans([(150100, 300150000), (300150002, 310150000)])
        self.assertEqual(move(150000, 1, 70000, a), [len(expected)] + expected)
        expected = packed_spans([(0, 100000000), (100000002, 110000000)])
        self.assertEqual(move(-200000000, 1, 70000, a), [len(expected)] + expected)
        expected = packed_spans([(ALL - 299999900, LAST)])
        self.assertEqual(move(ALL - 300000000, 1, 70000, a), [len(expected)] + expected)
        self.assertEqual(move(-309999995, 0, 70000, a), written(range(6), 0))
        self.assertEqual(move(1, 0, 70000, a), [-7])

    def test_large_set_of_bits(self):
        numbers = list(range(1, 8 * 65536, 2))
        a = packed(numbers)
        for by in (-1, -65537, 65536):
            self.assertEqual(move(by, 1, 80000, a), written(model_move(by, numbers), 1))

    def test_what_is_handed_in_stays(self):
        a = packed([1, 2, 3, 9, 70000], [0])
        copy = list(a)
        for by in (-2, 0, 2, 65536, ALL):
            found = move(by, 1, ROOM, a)
            found.append(0)
            self.assertEqual(a, copy)
        self.assertEqual(move(0, 1, ROOM, a), written([1, 2, 3, 9, 70000], 1))


if __name__ == "__main__":
    unittest.main()
