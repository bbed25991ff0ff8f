import unittest

from packedsets.sets import common, count, flip, has, join, least, make, move
from packedsets.sets import numbers, rank, ranges, same, select, spans
from tests.helper import EMPTY, ROOM, packed

LEAST = -2147483648
GREATEST = 2147483647
FARTHEST = 4294967296
TOO_FAR = (-9223372036854775808, -FARTHEST - 1, FARTHEST + 1, 9223372036854775807)
BAD_SET = [1, 2, 3]


class RangeTest(unittest.TestCase):
    def test_runs(self):
        for runs in (LEAST, -1, 2, GREATEST):
            self.assertEqual(make(runs, ROOM, [1]), [-2])
            self.assertEqual(ranges(runs, ROOM, [1, 2]), [-2])
            self.assertEqual(join(0, runs, ROOM, EMPTY, EMPTY), [-2])
            self.assertEqual(flip(1, 2, runs, ROOM, EMPTY), [-2])
            self.assertEqual(flip(2, 1, runs, ROOM, EMPTY), [-2])
            self.assertEqual(move(1, runs, ROOM, EMPTY), [-2])
        for runs in (0, 1):
            self.assertEqual(make(runs, ROOM, [])[0], 8)
            self.assertEqual(ranges(runs, ROOM, [])[0], 8)
            self.assertEqual(join(0, runs, ROOM, EMPTY, EMPTY)[0], 8)
            self.assertEqual(flip(2, 1, runs, ROOM, EMPTY)[0], 8)
            self.assertEqual(move(1, runs, ROOM, EMPTY)[0], 8)

    def test_room(self):
        for room in (LEAST, -1, 16777217, GREATEST):
            self.assertEqual(make(0, room, [1]), [-2])
            self.assertEqual(ranges(0, room, [1, 2]), [-2])
            self.assertEqual(join(0, 0, room, EMPTY, EMPTY), [-2])
            self.assertEqual(flip(1, 2, 0, room, EMPTY), [-2])
            self.assertEqual(move(1, 0, room, EMPTY), [-2])
            for start in (0, 5, 6, 4294967295):
                self.assertEqual(numbers(start, room, EMPTY), [-2])
                self.assertEqual(numbers(start, room, packed([5])), [-2])
                self.assertEqual(spans(start, room, EMPTY), [-2])
                self.assertEqual(spans(start, room, packed([5])), [-2])
        self.assertEqual(make(0, 16777216, [])[0], 8)
        self.assertEqual(ranges(0, 16777216, [])[0], 8)
        self.assertEqual(join(0, 0, 16777216, EMPTY, EMPTY)[0], 8)
        self.assertEqual(flip(2, 1, 0, 16777216, EMPTY)[0], 8)
        self.assertEqual(move(1, 0, 16777216, EMPTY)[0], 8)
        self.assertEqual(make(0, 0, []), [-7])
        self.assertEqual(ranges(0, 0, []), [-7])
        self.assertEqual(join(0, 0, 0, EMPTY, EMPTY), [-7])
        self.assertEqual(flip(2, 1, 0, 0, EMPTY), [-7])
        self.assertEqual(move(1, 0, 0, EMPTY), [-7])
        self.assertEqual(numbers(0, 0, packed([5])), [0])
        self.assertEqual(numbers(0, 20000, packed([5])), [1, 5])
        self.assertEqual(numbers(0, 16777216, packed([5])), [1, 5])
        self.assertEqual(spans(0, 0, packed([5])), [0])
        self.assertEqual(spans(0, 16777216, packed([5])), [1, 5, 5])

    def test_inside(self):
        for inside in (LEAST, -1, 2, GREATEST):
            for start in (0, 5, 4294967295):
                self.assertEqual(least(start, inside, EMPTY), [-2])
                self.assertEqual(least(start, inside, packed([5])), [-2])
        self.assertEqual(least(0, 0, packed([5])), [0])
        self.assertEqual(least(0, 1, packed([5])), [5])

    def test_how(self):
        for how in (LEAST, -1, 4, GREATEST):
            self.assertEqual(join(how, 0, ROOM, EMPTY, EMPTY), [-2])
            self.assertEqual(common(how, EMPTY, EMPTY), [-2])
            self.assertEqual(common(how, packed([5]), packed([5])), [-2])
        for how in (0, 1, 2, 3):
            self.assertEqual(join(how, 0, ROOM, EMPTY, EMPTY)[0], 8)
            self.assertEqual(common(how, EMPTY, EMPTY), [0])

    def test_by(self):
        for by in TOO_FAR:
            self.assertEqual(move(by, 0, ROOM, EMPTY), [-2])
            self.assertEqual(move(by, 1, ROOM, packed([5])), [-2])
        for by in (-FARTHEST, 1 - FARTHEST, 0, FARTHEST - 1, FARTHEST):
            self.assertEqual(move(by, 0, ROOM, EMPTY)[0], 8)


class OrderTest(unittest.TestCase):
    def test_range_ahead_of_form(self):
        for a, b in ((BAD_SET, EMPTY), (EMPTY, BAD_SET), (BAD_SET, BAD_SET)):
            self.assertEqual(join(4, 0, ROOM, a, b), [-2])
            self.assertEqual(join(-1, 0, ROOM, a, b), [-2])
            self.assertEqual(join(0, 2, ROOM, a, b), [-2])
            self.assertEqual(join(0, 0, -1, a, b), [-2])
            self.assertEqual(join(0, 0, 16777217, a, b), [-2])
            for how in (LEAST, -1, 4, GREATEST):
                self.assertEqual(common(how, a, b), [-2])

    def test_range_ahead_of_form_of_one_set(self):
        for runs, room in ((-1, ROOM), (2, ROOM), (0, -1), (1, 16777217), (LEAST, GREATEST)):
            self.assertEqual(flip(1, 2, runs, room, BAD_SET), [-2])
            self.assertEqual(flip(2, 1, runs, room, []), [-2])
            self.assertEqual(move(0, runs, room, BAD_SET), [-2])
            self.assertEqual(move(FARTHEST, runs, room, []), [-2])
        for by in TOO_FAR:
            self.assertEqual(move(by, 0, ROOM, BAD_SET), [-2])
            self.assertEqual(move(by, 1, ROOM, []), [-2])
        for start in (0, 4294967295):
            for inside in (LEAST, -1, 2, GREATEST):
                self.assertEqual(least(start, inside, BAD_SET), [-2])
                self.assertEqual(least(start, inside, []), [-2])
            for room in (LEAST, -1, 16777217, GREATEST):
                self.assertEqual(numbers(start, room, BAD_SET), [-2])
                self.assertEqual(numbers(start, room, []), [-2])
                self.assertEqual(spans(start, room, BAD_SET), [-2])
                self.assertEqual(spans(start, room, []), [-2])

    def test_range_ahead_of_room(self):
        self.assertEqual(make(2, 0, [1]), [-2])
        self.assertEqual(ranges(-1, 0, [0, 4294967295]), [-2])
        self.assertEqual(join(4, 0, 0, EMPTY, EMPTY), [-2])
        self.assertEqual(flip(0, 4294967295, 2, 0, EMPTY), [-2])
        self.assertEqual(move(0, -1, 0, packed([5])), [-2])
        for by in TOO_FAR:
            self.assertEqual(move(by, 0, 0, packed([5])), [-2])

    def test_form_ahead_of_room(self):
        for a, b in ((BAD_SET, EMPTY), (EMPTY, BAD_SET), (BAD_SET, BAD_SET)):
            for how in range(4):
                self.assertEqual(join(how, 0, 0, a, b), [-3])
                self.assertEqual(join(how, 1, 7, a, b), [-3])
        for room in (0, 7, ROOM):
            self.assertEqual(flip(0, 4294967295, 0, room, BAD_SET), [-3])
            self.assertEqual(flip(2, 1, 1, room, BAD_SET), [-3])
            self.assertEqual(move(1, 0, room, BAD_SET), [-3])
            self.assertEqual(move(FARTHEST, 1, room, BAD_SET), [-3])

    def test_form_alone(self):
        self.assertEqual(count(BAD_SET), [-3])
        for x in (0, 4294967295):
            self.assertEqual(has(x, BAD_SET), [-3])
            self.assertEqual(rank(x, BAD_SET), [-3])
            for inside in (0, 1):
                self.assertEqual(least(x, inside, BAD_SET), [-3])
            for room in (0, 1, 20000):
                self.assertEqual(numbers(x, room, BAD_SET), [-3])
            for room in (0, 1, ROOM):
                self.assertEqual(spans(x, room, BAD_SET), [-3])
        for i in (0, 3, 4294967296, 18446744073709551615):
            self.assertEqual(select(i, BAD_SET), [-3])
        for a, b in ((BAD_SET, EMPTY), (EMPTY, BAD_SET), (BAD_SET, BAD_SET)):
            for how in range(4):
                self.assertEqual(common(how, a, b), [-3])
            self.assertEqual(same(a, b), [-3])


class RoomTest(unittest.TestCase):
    def check(self, call, size):
        found = call(size)
        self.assertEqual(found[0], size)
        self.assertEqual(len(found), size + 1)
        self.assertEqual(call(size + 1), found)
        self.assertEqual(call(size - 1), [-7])
        self.assertEqual(call(0), [-7])

    def test_make(self):
        self.check(lambda room: make(0, room, []), 8)
        self.check(lambda room: make(0, room, [1, 2, 3, 4]), 24)
        self.check(lambda room: make(1, room, [1, 2, 3, 4]), 15)
        self.check(lambda room: make(0, room, list(range(5000))), 8208)

    def test_ranges(self):
        self.check(lambda room: ranges(0, room, [5, 4]), 8)
        self.check(lambda room: ranges(0, room, [0, 65535]), 8208)
        self.check(lambda room: ranges(1, room, [0, 65536 * 4 - 1]), 4 + 1 + 4 * 8 + 4 * 6)
        self.check(lambda room: ranges(1, room, [0, 65536 * 3 - 1]), 4 + 1 + 3 * 4 + 3 * 6)

    def test_join(self):
        a = packed([1, 2, 3])
        b = packed([3, 4])
        self.check(lambda room: join(0, 1, room, a, b), 18)
        self.check(lambda room: join(1, 0, room, a, b), 24)
        self.check(lambda room: join(1, 1, room, a, b), 15)
        self.check(lambda room: join(3, 0, room, a, a), 8)

    def test_flip(self):
        a = packed([1, 2, 3])
        self.check(lambda room: flip(1, 3, 0, room, a), 8)
        self.check(lambda room: flip(3, 1, 1, room, a), 22)
        self.check(lambda room: flip(4, 4, 0, room, a), 24)
        self.check(lambda room: flip(4, 4, 1, room, a), 15)
        self.check(lambda room: flip(0, 65535, 0, room, a), 8208)
        self.check(lambda room: flip(0, 65536 * 4 - 1, 1, room, EMPTY), 4 + 1 + 4 * 8 + 4 * 6)

    def test_move(self):
        a = packed([1, 2, 3, 4])
        self.check(lambda room: move(0, 0, room, a), 24)
        self.check(lambda room: move(0, 1, room, a), 15)
        self.check(lambda room: move(-2, 1, room, a), 22)
        self.check(lambda room: move(65533, 0, room, a), 8 + 2 * 8 + 2 + 6)
        self.check(lambda room: move(-5, 1, room, a), 8)


if __name__ == "__main__":
    unittest.main()
