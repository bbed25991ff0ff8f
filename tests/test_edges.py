"""Edges always rise, so that a span is as long as can be, over the ends of parts too."""

import unittest

from packedsets.edges import compare_edges, count_within, edges_from, edges_of_numbers, edges_of_pairs, edges_outside
from packedsets.edges import first_numbers, first_pairs, flip_edges, join_edges, move_edges, pick_number
from packedsets.reader import read_edges
from tests.helper import packed


class EdgesTest(unittest.TestCase):
    def test_numbers(self):
        self.assertEqual(edges_of_numbers([]), [])
        self.assertEqual(edges_of_numbers([9, 3, 4, 3, 65536, 65535]), [3, 5, 9, 10, 65535, 65537])

    def test_pairs(self):
        self.assertEqual(edges_of_pairs([5, 4, 30, 15, 10, 20, 22, 21]), [10, 21])
        self.assertEqual(edges_of_pairs([21, 30, 10, 20, 65530, 65540]), [10, 31, 65530, 65541])

    def test_read_over_the_ends_of_parts(self):
        numbers = list(range(65530, 131080)) + [196607, 196609]
        for run_keys in ((), (0,), (1,), (0, 1, 2, 3)):
            self.assertEqual(read_edges(packed(numbers, run_keys)), [65530, 131080, 196607, 196608, 196609, 196610])

    def test_join(self):
        left = [0, 10, 20, 30]
        right = [5, 20, 30, 40]
        self.assertEqual(join_edges(0, left, right), [5, 10])
        self.assertEqual(join_edges(1, left, right), [0, 40])
        self.assertEqual(join_edges(2, left, right), [0, 5, 10, 40])
        self.assertEqual(join_edges(3, left, right), [0, 5, 20, 30])
        self.assertEqual(join_edges(3, [0, 4294967296], right), [0, 5, 20, 30, 40, 4294967296])

    def test_count_within(self):
        edges = [10, 20, 30, 4294967296]
        self.assertEqual(count_within(edges, 0, 9), 0)
        self.assertEqual(count_within(edges, 0, 10), 1)
        self.assertEqual(count_within(edges, 19, 30), 2)
        self.assertEqual(count_within(edges, 4294967295, 4294967295), 1)
        self.assertEqual(count_within([], 0, 4294967295), 0)

    def test_from(self):
        edges = [10, 20, 30, 4294967296]
        self.assertEqual(edges_from(edges, 10), edges)
        self.assertEqual(edges_from(edges, 19), [19, 20, 30, 4294967296])
        self.assertEqual(edges_from(edges, 20), [30, 4294967296])
        self.assertEqual(edges_from(edges, 4294967295), [4294967295, 4294967296])
        self.assertEqual(edges_from([10, 20], 20), [])
        self.assertEqual(edges_from([], 0), [])

    def test_outside(self):
        self.assertEqual(edges_outside([]), [0, 4294967296])
        self.assertEqual(edges_outside([0, 4294967296]), [])
        self.assertEqual(edges_outside([10, 20]), [0, 10, 20, 4294967296])
        self.assertEqual(edges_outside([0, 10, 20, 4294967296]), [10, 20])

    def test_pick(self):
        edges = [10, 12, 20, 21, 30, 4294967296]
        self.assertEqual([pick_number(edges, i) for i in range(5)], [10, 11, 20, 30, 31])
        self.assertEqual(pick_number(edges, 4294967268), 4294967295)

    def test_first_numbers(self):
        edges = [10, 12, 20, 21, 30, 4294967296]
        listed = [10, 11, 20, 30, 31, 32]
        for room in range(7):
            self.assertEqual(first_numbers(edges, room), listed[:room])
        self.assertEqual(first_numbers([10, 12], 3), [10, 11])
        self.assertEqual(first_numbers([], 3), [])

    def test_first_pairs(self):
        edges = [10, 12, 20, 21, 30, 4294967296]
        self.assertEqual(first_pairs(edges, 0), [])
        self.assertEqual(first_pairs(edges, 1), [10, 11])
        self.assertEqual(first_pairs(edges, 2), [10, 11, 20, 20])
        self.assertEqual(first_pairs(edges, 3), [10, 11, 20, 20, 30, 4294967295])
        self.assertEqual(first_pairs(edges, 4), first_pairs(edges, 3))
        self.assertEqual(first_pairs([], 4), [])

    def test_compare(self):
        edges = [10, 20, 30, 40]
        expected = (
            ([], 3), (edges, 1), ([0, 10, 20, 30, 40, 50], 0), ([10, 20], 3), ([31, 40], 3), ([10, 40], 2),
            ([10, 20, 30, 41], 2), ([15, 25], 4), ([5, 15], 4), ([10, 20, 31, 41], 4),
        )
        for other, answer in expected:
            self.assertEqual(compare_edges(edges, other), answer, other)
            self.assertEqual(compare_edges(other, edges), {2: 3, 3: 2}.get(answer, answer), other)
        self.assertEqual(compare_edges([], []), 1)

    def test_flip(self):
        self.assertEqual(flip_edges([10, 20], 5, 9), [5, 20])
        self.assertEqual(flip_edges([10, 20], 10, 19), [])
        self.assertEqual(flip_edges([10, 20], 15, 4294967295), [10, 15, 20, 4294967296])
        self.assertEqual(flip_edges([10, 20], 15, 14), [10, 20])

    def test_move(self):
        edges = [0, 10, 20, 4294967296]
        self.assertEqual(move_edges(edges, 5), [5, 15, 25, 4294967296])
        self.assertEqual(move_edges(edges, -10), [10, 4294967286])
        self.assertEqual(move_edges(edges, -9), [0, 1, 11, 4294967287])
        self.assertEqual(move_edges(edges, 4294967276), [4294967276, 4294967286])
        self.assertEqual(move_edges(edges, 4294967275), [4294967275, 4294967285, 4294967295, 4294967296])


if __name__ == "__main__":
    unittest.main()
