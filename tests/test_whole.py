"""What is promised over all fourteen calls: their interface, and that nothing is changed or kept."""

import contextlib
import copy
import importlib
import inspect
import io
import unittest
from random import Random

from packedsets import sets
from tests.helper import EMPTY, ROOM, packed, packed_spans, parts_of

LAST = 4294967295

ARGUMENTS = {
    "make": ["runs", "room", "x"],
    "ranges": ["runs", "room", "x"],
    "join": ["how", "runs", "room", "a", "b"],
    "flip": ["start", "to", "runs", "room", "a"],
    "move": ["by", "runs", "room", "a"],
    "count": ["a"],
    "common": ["how", "a", "b"],
    "has": ["x", "a"],
    "rank": ["x", "a"],
    "select": ["i", "a"],
    "least": ["start", "inside", "a"],
    "numbers": ["start", "room", "a"],
    "spans": ["start", "room", "a"],
    "same": ["a", "b"],
}
COUNTED = {"make": 1, "ranges": 1, "join": 1, "flip": 1, "move": 1, "numbers": 1, "spans": 2}
REFUSALS = {
    "make": {-2, -7}, "ranges": {-2, -7}, "join": {-2, -3, -7}, "flip": {-2, -3, -7}, "move": {-2, -3, -7},
    "count": {-3}, "common": {-2, -3}, "has": {-3}, "rank": {-3}, "select": {-3, -5}, "least": {-2, -3, -5},
    "numbers": {-2, -3}, "spans": {-2, -3}, "same": {-3},
}
MODULES = ("edges", "form", "reader", "sets", "writer")

MEMBERS = [0, 1, 2, 9, 65535, 65536, 70000] + list(range(140000, 150000)) + [LAST]
A_SET = packed(MEMBERS, [0, 1])
OTHER_SET = packed([2, 9, 10] + list(range(145000, 155000, 2)))
LONG_SET = packed_spans([(100, 30000000)])
BAD_SET = A_SET[:-1]


class Unchanging(list):
    """A list that can be read, but not changed, not for a while either."""

    def refuse(self, *args, **kwargs):
        raise AssertionError("what was handed in was changed")

    append = extend = insert = pop = remove = clear = sort = reverse = refuse
    __setitem__ = __delitem__ = __iadd__ = __imul__ = refuse


def ordinary_calls():
    yield "make", (0, ROOM, [9, 3, 70000, 3, LAST, 0, 4])
    yield "make", (1, ROOM, list(range(500, 0, -1)))
    yield "ranges", (0, ROOM, [70000, 70010, 5, 9, 3, 2])
    yield "ranges", (1, ROOM, [60000, 200000, 5, 9, 3, 2])
    for how in range(4):
        yield "join", (how, how % 2, ROOM, A_SET, OTHER_SET)
        yield "common", (how, A_SET, OTHER_SET)
    yield "flip", (5, 70005, 1, ROOM, A_SET)
    yield "move", (-3, 0, ROOM, A_SET)
    yield "move", (65530, 1, ROOM, OTHER_SET)
    for a in (EMPTY, A_SET, LONG_SET):
        yield "count", (a,)
        yield "has", (9, a)
        yield "rank", (70000, a)
        yield "select", (7, a)
        yield "least", (65535, 0, a)
        yield "least", (3, 1, a)
        yield "numbers", (2, 50, a)
        yield "spans", (2, 3, a)
        yield "spans", (2, ROOM, a)
    for a, b in ((A_SET, OTHER_SET), (EMPTY, A_SET), (A_SET, A_SET), (LONG_SET, OTHER_SET), (OTHER_SET, EMPTY)):
        yield "same", (a, b)


def refused_calls():
    yield "make", (2, ROOM, [5])
    yield "make", (0, 17, [5])
    yield "ranges", (0, -1, [5, 6])
    yield "ranges", (1, 100, [0, LAST])
    yield "join", (4, 0, ROOM, A_SET, OTHER_SET)
    yield "join", (1, 0, ROOM, A_SET, BAD_SET)
    yield "join", (1, 0, 9, A_SET, OTHER_SET)
    yield "flip", (0, LAST, -1, ROOM, A_SET)
    yield "flip", (0, LAST, 1, ROOM, BAD_SET)
    yield "flip", (0, LAST, 1, 9, A_SET)
    yield "move", (LAST + 2, 0, ROOM, A_SET)
    yield "move", (1, 0, ROOM, BAD_SET)
    yield "move", (1, 0, 9, A_SET)
    yield "count", (BAD_SET,)
    yield "common", (-1, A_SET, OTHER_SET)
    yield "common", (0, BAD_SET, OTHER_SET)
    yield "has", (9, BAD_SET)
    yield "rank", (9, BAD_SET)
    yield "select", (9, BAD_SET)
    yield "select", (18446744073709551615, A_SET)
    yield "least", (9, 2, A_SET)
    yield "least", (9, 1, BAD_SET)
    yield "least", (LAST, 0, A_SET)
    yield "numbers", (9, -1, A_SET)
    yield "numbers", (9, 5, BAD_SET)
    yield "spans", (9, ROOM + 1, A_SET)
    yield "spans", (9, 5, BAD_SET)
    yield "same", (A_SET, BAD_SET)
    yield "same", (BAD_SET, A_SET)


def all_calls():
    return list(ordinary_calls()) + list(refused_calls())


def call(name, arguments):
    return getattr(sets, name)(*arguments)


def values_of_modules():
    values = {}
    for module in MODULES:
        for name, value in vars(importlib.import_module("packedsets." + module)).items():
            if not name.startswith("__"):
                values[module, name] = copy.deepcopy(value)
    return values


class WholeTest(unittest.TestCase):
    def test_names_and_arguments(self):
        for name, arguments in ARGUMENTS.items():
            self.assertEqual(list(inspect.signature(getattr(sets, name)).parameters), arguments)

    def test_arguments_by_name(self):
        for name, arguments in all_calls():
            named = dict(zip(ARGUMENTS[name], arguments, strict=True))
            self.assertEqual(getattr(sets, name)(**named), call(name, arguments))

    def test_each_call_is_among_the_samples(self):
        self.assertEqual({name for name, arguments in ordinary_calls()}, set(ARGUMENTS))
        found = {name: set() for name in ARGUMENTS}
        for name, arguments in refused_calls():
            found[name].add(call(name, arguments)[0])
        self.assertEqual(found, REFUSALS)

    def test_answers_are_lists_of_whole_numbers(self):
        for name, arguments in all_calls():
            found = call(name, arguments)
            self.assertIs(type(found), list)
            self.assertEqual({type(number) for number in found}, {int})

    def test_refusals_stand_alone(self):
        for name, arguments in refused_calls():
            found = call(name, arguments)
            self.assertEqual(len(found), 1)
            self.assertLess(found[0], 0)

    def test_first_number_is_how_many(self):
        for name, arguments in ordinary_calls():
            found = call(name, arguments)
            if (name, found) in (("select", [-5]), ("least", [-5])):
                continue
            self.assertGreaterEqual(found[0], 0)
            self.assertEqual(len(found), 1 + COUNTED.get(name, 0) * found[0], name)

    def test_what_is_handed_in_stays(self):
        for name, arguments in all_calls():
            kept = copy.deepcopy(arguments)
            found = call(name, arguments)
            self.assertEqual(arguments, kept, name)
            found.extend([0, 0])
            self.assertEqual(arguments, kept, name)

    def test_what_is_handed_in_stays_all_the_while(self):
        for name, arguments in all_calls():
            guarded = [Unchanging(value) if isinstance(value, list) else value for value in arguments]
            self.assertEqual(call(name, guarded), call(name, arguments), name)

    def test_again(self):
        for name, arguments in all_calls():
            first = call(name, arguments)
            kept = list(first)
            first.reverse()
            first.append(-1)
            self.assertEqual(call(name, arguments), kept, name)

    def test_again_with_others_in_between(self):
        calls = all_calls()
        answers = [call(name, arguments) for name, arguments in calls]
        order = list(range(len(calls))) * 2
        Random(33).shuffle(order)
        for i in order:
            self.assertEqual(call(*calls[i]), answers[i], calls[i][0])

    def test_same_list_with_another_content(self):
        a = packed([5, 6])
        for members, answer in (([5, 6], 1), ([7], 0), ([], 2), ([5, 70000], 4), ([5], 2), ([5, 6], 1)):
            a[:] = packed(members)
            self.assertEqual(sets.numbers(0, 9, a), [len(members)] + members)
            self.assertEqual(sets.count(a), [len(members)])
            self.assertEqual(sets.same(a, packed([5, 6])), [answer])

    def test_one_list_as_both_sets(self):
        for a in (EMPTY, A_SET, OTHER_SET):
            other = list(a)
            self.assertEqual(sets.same(a, a), sets.same(a, other))
            for how in range(4):
                self.assertEqual(sets.join(how, 1, ROOM, a, a), sets.join(how, 1, ROOM, a, other))
                self.assertEqual(sets.common(how, a, a), sets.common(how, a, other))

    def test_nothing_is_kept(self):
        before = values_of_modules()
        for name, arguments in all_calls():
            call(name, arguments)
        self.assertEqual(values_of_modules(), before)

    def test_nothing_is_printed(self):
        out = io.StringIO()
        with contextlib.redirect_stdout(out), contextlib.redirect_stderr(out):
            for name, arguments in all_calls():
                call(name, arguments)
        self.assertEqual(out.getvalue(), "")

    def test_calls_agree_with_one_another(self):
        a = A_SET
        size = len(MEMBERS)
        self.assertEqual(sets.count(a), [size])
        listed = sets.numbers(0, 20000, a)
        self.assertEqual(listed, [size] + MEMBERS)
        self.assertEqual(sets.make(0, ROOM, listed[1:])[1:], packed(MEMBERS))
        told = sets.spans(0, ROOM, a)
        self.assertEqual(sets.same(sets.ranges(1, ROOM, told[1:])[1:], a), [1])
        for i in (0, 1, 4, 7, 500, size - 2, size - 1):
            found = sets.select(i, a)
            self.assertEqual(found, [MEMBERS[i]])
            self.assertEqual(sets.has(found[0], a), [1])
            self.assertEqual(sets.rank(found[0], a), [i + 1])
            self.assertEqual(sets.least(found[0], 1, a), found)
            self.assertEqual(sets.numbers(found[0], 1, a), [1] + found)
            self.assertEqual(sets.spans(found[0], 1, a)[:2], [1] + found)
        flipped = sets.flip(0, 200000, 1, ROOM, a)[1:]
        self.assertEqual(sets.same(sets.flip(0, 200000, 0, ROOM, flipped)[1:], packed(MEMBERS, parts_of(MEMBERS))), [1])
        self.assertEqual(sets.same(sets.move(-7, 1, ROOM, sets.move(7, 0, ROOM, OTHER_SET)[1:])[1:], OTHER_SET), [1])


if __name__ == "__main__":
    unittest.main()
