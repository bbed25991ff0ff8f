import struct
import unittest
from random import Random

from packedsets.sets import common, count, flip, has, join, least, move, numbers, rank, same, select, spans
from tests.helper import EMPTY, ROOM, assemble, model_read, model_spans, packed, written


def number(value, size):
    return list(value.to_bytes(size, "little"))


def runs_body(*pairs):
    return struct.pack("<H", len(pairs)) + b"".join(struct.pack("<HH", first, more) for first, more in pairs)


def list_body(*lows):
    return struct.pack("<%dH" % len(lows), *lows)


class FormTest(unittest.TestCase):
    def refused(self, a):
        for how in range(4):
            self.assertEqual(join(how, 0, ROOM, a, EMPTY), [-3])
            self.assertEqual(join(how, 1, ROOM, EMPTY, a), [-3])
            self.assertEqual(common(how, a, EMPTY), [-3])
            self.assertEqual(common(how, EMPTY, a), [-3])
        # Not even where what is asked for doesn't turn on what a holds.
        for start, to in ((0, 4294967295), (5, 5), (1, 0)):
            self.assertEqual(flip(start, to, 1, ROOM, a), [-3])
        for by in (-4294967296, 0, 1, 4294967296):
            self.assertEqual(move(by, 0, ROOM, a), [-3])
        self.assertEqual(count(a), [-3])
        for x in (0, 5, 4294967295):
            self.assertEqual(has(x, a), [-3])
            self.assertEqual(rank(x, a), [-3])
            for inside in (0, 1):
                self.assertEqual(least(x, inside, a), [-3])
            for room in (0, 1, 20000):
                self.assertEqual(numbers(x, room, a), [-3])
                self.assertEqual(spans(x, room, a), [-3])
        for other in (EMPTY, packed([5, 70000]), a):
            self.assertEqual(same(a, other), [-3])
            self.assertEqual(same(other, a), [-3])
        for i in (0, 1, 18446744073709551615):
            self.assertEqual(select(i, a), [-3])
        self.assertIsNone(model_read(a))

    def taken(self, a, members):
        self.assertEqual(join(1, 0, ROOM, a, EMPTY), written(members, 0))
        self.assertEqual(join(1, 1, ROOM, EMPTY, a), written(members, 1))
        self.assertEqual(flip(1, 0, 1, ROOM, a), written(members, 1))
        self.assertEqual(move(0, 0, ROOM, a), written(members, 0))
        self.assertEqual(count(a), [len(members)])
        self.assertEqual(common(1, a, EMPTY), [len(members)])
        self.assertEqual(common(2, EMPTY, a), [len(members)])
        self.assertEqual(rank(4294967295, a), [len(members)])
        self.assertEqual(has(70000, a), [1 if 70000 in members else 0])
        self.assertEqual(numbers(0, 20000, a), [min(len(members), 20000)] + list(members[:20000]))
        self.assertEqual(spans(0, ROOM, a), model_spans(0, ROOM, members))
        self.assertEqual(same(a, packed(members)), [1])
        self.assertEqual(same(a, EMPTY), [3 if members else 1])
        self.assertEqual(least(0, 1, a), [members[0]] if members else [-5])
        self.assertEqual(select(max(len(members), 1) - 1, a), [members[-1]] if members else [-5])

    def changed(self, a, place, value, size):
        return a[:place] + number(value, size) + a[place + size:]

    def samples(self):
        dense = list(range(0, 65536, 3))
        yield EMPTY
        yield packed([5])
        yield packed([5, 6, 7, 70000, 4294967295])
        yield packed(dense)
        yield packed([5, 6, 7], [0])
        yield packed([5, 6, 9, 70000], [0])
        yield packed([5, 6, 9, 70000, 140000, 200000], [0, 2])
        yield packed([65536 * key + low for key in range(9) for low in (1, 2)], [8])
        yield packed([5, 6] + [65536 + low for low in dense] + [140000], [2])

    def test_too_few_and_too_many(self):
        for a in self.samples():
            self.refused(a[:-1])
            self.refused(a + [0])
            self.refused(a + a)
            for size in range(min(len(a), 120)):
                self.refused(a[:size])

    def test_no_bytes(self):
        self.refused([])

    def test_first_four_bytes(self):
        for value in (0, 12345, 12348, 12346 + 65536, 12346 * 65536, 12347 * 65536, 12346 + 16777216, 4294967295):
            self.refused(self.changed(EMPTY, 0, value, 4))
            self.refused(self.changed(packed([5]), 0, value, 4))
            self.refused(self.changed(packed([5, 6, 7], [0]), 0, value, 4))
        self.refused(self.changed(EMPTY, 0, 12347, 4))
        self.refused(self.changed(packed([5]), 0, 12347, 4))
        self.refused(self.changed(packed([5, 6, 7], [0]), 0, 12346, 4))

    def test_highest_byte_first(self):
        self.refused([0, 0, 48, 58, 0, 0, 0, 0])

    def test_count_of_parts(self):
        for value in (0, 2, 256, 65536, 65537, 16777217, 4294967295):
            self.refused(self.changed(packed([5]), 4, value, 4))
        for value in (1, 65536, 65537, 4294967295):
            self.refused(self.changed(EMPTY, 4, value, 4))
        for value in (12347 + 65536, 12347 + 65536 * 65535):
            self.refused(self.changed(packed([5, 6], [0]), 0, value, 4))

    def test_second_front_without_runs(self):
        self.refused(number(12347, 4) + [0] + number(0, 2) + number(0, 2) + number(5, 2))
        four = [65536 * key for key in range(4)]
        places = [37, 39, 41, 43]
        a = number(12347 + 65536 * 3, 4) + [0]
        for key in range(4):
            a += number(key, 2) + number(0, 2)
        for place in places:
            a += number(place, 4)
        a += [0] * 8
        self.refused(a)
        self.taken(packed(four, [3]), four)
        # Not even where all behind the first eight bytes is as the first front would have it.
        self.refused(number(12347, 4) + number(0, 4) + packed([5])[8:])
        self.refused(number(12347 + 65536 * 3, 4) + number(0, 4) + packed(four)[8:])

    def test_bits_over(self):
        one = packed([5, 6, 7], [0])
        self.assertEqual(one[4], 1)
        for bit in range(1, 8):
            self.refused(self.changed(one, 4, 1 + (1 << bit), 1))
        nine = packed([65536 * key for key in range(9)], [0])
        self.assertEqual(nine[4:6], [1, 0])
        for bit in range(1, 8):
            self.refused(self.changed(nine, 5, 1 << bit, 1))
        eight = packed([65536 * key for key in range(8)], [7])
        self.taken(eight, [65536 * key for key in range(8)])

    def test_wrong_mark(self):
        # The runs of a part, taken for a list, and the other way round.
        self.refused(self.changed(packed([5, 70000], [0]), 4, 2, 1))
        self.refused(self.changed(packed([5, 70000], [0]), 4, 3, 1))

    def test_keys_rise(self):
        for as_runs in (False, True):
            body = runs_body((5, 0)) if as_runs else list_body(5)
            for keys in ((1, 1), (2, 1), (65535, 0), (0, 1, 1), (0, 2, 1), (3, 1, 2, 4), (0, 1, 2, 2)):
                self.refused(assemble([(key, 1, as_runs, body) for key in keys]))
            for keys in ((1, 2), (0, 65535), (0, 1, 2, 65535)):
                entries = [(key, 1, as_runs, body) for key in keys]
                self.taken(assemble(entries), [65536 * key + 5 for key in keys])

    def test_places(self):
        two = packed([5, 70000])
        four = packed([65536 * key for key in range(4)], [1])
        self.assertEqual(two[16:24], number(24, 4) + number(26, 4))
        for place in (16, 20):
            for value in (0, 23, 25, 27, 65560, 4294967295):
                self.refused(self.changed(two, place, value, 4))
        self.refused(two[:16] + two[20:24] + two[16:20] + two[24:])
        for place, right in ((21, 37), (25, 39), (29, 45), (33, 47)):
            self.assertEqual(four[place:place + 4], number(right, 4))
            for value in (0, right - 2, right - 1, right + 1, right + 2, right + 65536, 4294967295):
                self.refused(self.changed(four, place, value, 4))

    def test_places_where_none_are_told(self):
        three = packed([0, 65536, 131072], [0])
        self.refused(three[:17] + number(29, 4) + number(35, 4) + number(37, 4) + three[17:])

    def test_no_places_where_they_are_told(self):
        four = packed([65536 * key for key in range(4)], [1])
        self.refused(four[:21] + four[37:])
        two = packed([5, 70000])
        self.refused(two[:16] + two[24:])

    def test_gap_between_parts(self):
        two = packed([5, 70000])
        self.refused(two[:20] + number(28, 4) + two[24:26] + [0, 0] + two[26:])

    def test_list_rises(self):
        for lows in ((5, 5), (6, 5), (65535, 0), (1, 2, 2), (1, 3, 2), (0, 0)):
            self.refused(assemble([(0, len(lows), False, list_body(*lows))]))
        self.taken(assemble([(0, 3, False, list_body(0, 1, 65535))]), [0, 1, 65535])

    def test_runs_rise(self):
        for pairs in (((10, 0), (5, 0)), ((5, 2), (5, 2)), ((5, 3), (7, 3)), ((5, 5), (6, 1)), ((9, 1), (0, 1))):
            count = sum(more + 1 for first, more in pairs)
            self.refused(assemble([(0, count, True, runs_body(*pairs))]))
            distinct = len({low for first, more in pairs for low in range(first, first + more + 1)})
            self.refused(assemble([(0, distinct, True, runs_body(*pairs))]))

    def test_runs_do_not_touch(self):
        self.refused(assemble([(0, 5, True, runs_body((5, 2), (8, 1)))]))
        self.refused(assemble([(0, 2, True, runs_body((0, 0), (1, 0)))]))
        self.taken(assemble([(0, 5, True, runs_body((5, 2), (9, 1)))]), [5, 6, 7, 9, 10])
        # Nor where the second run could stand for the list that is missing behind it.
        self.refused(assemble([(0, 13, True, runs_body((5, 2), (8, 9))), (1, 2, False, b"")]))
        self.refused(assemble([(0, 5, True, runs_body((5, 2), (8, 9))), (1, 2, False, b"")]))
        self.refused(assemble([(0, 3, True, runs_body((5, 2), (8, 9))), (1, 2, False, b"")]))
        # Runs of two parts may lie side by side.
        parts = [(0, 1, True, runs_body((65535, 0))), (1, 1, True, runs_body((0, 0)))]
        self.taken(assemble(parts), [65535, 65536])

    def test_run_beyond_the_end(self):
        self.refused(assemble([(0, 2, True, runs_body((65535, 1)))]))
        self.refused(assemble([(0, 65536, True, runs_body((1, 65535)))]))
        self.refused(assemble([(0, 12, True, runs_body((3, 0), (65530, 10)))]))
        self.refused(assemble([(0, 65536, True, runs_body((65535, 65535)))]))
        self.taken(assemble([(0, 2, True, runs_body((65534, 1)))]), [65534, 65535])
        self.taken(assemble([(0, 65536, True, runs_body((0, 65535)))]), range(65536))

    def test_no_runs_in_a_part(self):
        self.refused(assemble([(0, 1, True, runs_body())]))
        self.refused(assemble([(0, 65536, True, runs_body())]))

    def test_as_many_as_told(self):
        for count in (1, 2, 4, 65536):
            self.refused(assemble([(0, count, True, runs_body((5, 2)))]))
        for count in (1, 2, 4, 4096):
            self.refused(assemble([(0, count, False, list_body(5, 6, 7))]))
        bits = ((1 << 5000) - 1).to_bytes(8192, "little")
        for count in (4097, 4999, 5001, 65536):
            self.refused(assemble([(0, count, False, bits)]))
        self.taken(assemble([(0, 5000, False, bits)]), range(5000))

    def test_bits_of_a_few(self):
        # 4096 or fewer are never bits, more are never a list.
        bits = ((1 << 4096) - 1).to_bytes(8192, "little")
        self.refused(assemble([(0, 4096, False, bits)]))
        self.refused(assemble([(0, 4097, False, bits)]))
        self.refused(assemble([(0, 4097, False, list_body(*range(4097)))]))

    def test_each_byte_of_bits(self):
        bits = []
        for byte in range(256):
            bits += [0, byte, 255, byte, byte]
        bits += [255] * (8192 - len(bits))
        lows = [low for low in range(65536) if bits[low // 8] >> low % 8 & 1]
        self.taken(assemble([(3, len(lows), False, bytes(bits))]), [3 * 65536 + low for low in lows])

    def test_either_may_be_wrong(self):
        good = packed([5])
        bad = good[:-1]
        for how in range(4):
            self.assertEqual(join(how, 0, ROOM, good, bad), [-3])
            self.assertEqual(join(how, 0, ROOM, bad, good), [-3])
            self.assertEqual(join(how, 0, ROOM, bad, bad), [-3])
            self.assertEqual(common(how, good, bad), [-3])
            self.assertEqual(common(how, bad, good), [-3])
            self.assertEqual(common(how, bad, bad), [-3])
        self.assertEqual(same(good, bad), [-3])
        self.assertEqual(same(bad, good), [-3])
        self.assertEqual(same(bad, bad), [-3])

    def test_each_sample_is_taken(self):
        for a in self.samples():
            self.taken(a, model_read(a))

    def test_small_changes(self):
        random = Random(7)
        samples = [a for a in self.samples() if len(a) < 1000]
        for i in range(6000):
            a = list(random.choice(samples))
            place = random.randrange(len(a))
            kind = random.randrange(4)
            if kind == 0:
                a[place] = random.choice((0, 1, 2, 255, random.randrange(256)))
            elif kind == 1:
                a[place] = (a[place] + random.choice((1, 255))) % 256
            elif kind == 2:
                a.pop(place)
            else:
                a.insert(place, random.choice((0, 1, a[place])))
            members = model_read(a)
            expected = [-3] if members is None else written(members, 1)
            self.assertEqual(join(1, 1, ROOM, a, EMPTY), expected, a)
            self.assertEqual(flip(1, 0, 1, ROOM, a), expected, a)
            self.assertEqual(move(0, 1, ROOM, a), expected, a)
            amount = [-3] if members is None else [len(members)]
            self.assertEqual(count(a), amount, a)
            self.assertEqual(common(3, a, EMPTY), amount, a)
            self.assertEqual(common(1, EMPTY, a), amount, a)
            self.assertEqual(rank(4294967295, a), amount, a)
            self.assertEqual(has(6, a), [-3] if members is None else [1 if 6 in members else 0], a)
            listed = [-3] if members is None else [min(len(members), 20000)] + members[:20000]
            self.assertEqual(numbers(0, 20000, a), listed, a)
            self.assertEqual(spans(0, ROOM, a), [-3] if members is None else model_spans(0, ROOM, members), a)
            self.assertEqual(same(a, a), [-3] if members is None else [1], a)
            self.assertEqual(same(EMPTY, a), [-3] if members is None else [2 if members else 1], a)
            front = [-3] if members is None else members[:1] or [-5]
            self.assertEqual(select(0, a), front, a)
            self.assertEqual(least(0, 1, a), front, a)


if __name__ == "__main__":
    unittest.main()
