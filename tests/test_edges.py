"""Edges always rise, so that a span is as long as can be, over the ends of parts too."""

import unittest

from packedsets.edges import count_within, edges_of_numbers, edges_of_pairs, flip_edges, join_edges, move_edges
from packedsets.reader import read_edges
from tests.helper import packed


class EdgesTest(unittest.TestCase):
    def test_numbers(self):
        self.assertEqual(edges_of_numbers([]), [])
        self.assertEqual(edges_of_numbers([9, 3, 4, 3, 65536, 65535]), [3, 5, 9, 10, 65535, 65537])

    def test_pairs(self):
        self.assertEqual(edges_of_pairs([5, 4, 30, 15, 10, 20, 22, 21]), [10, 21])
        self.assertEqual(edges_of_pairs([21, 30, 10, 20, 65530, 65540]), [10, 31, 65530, 65541])

    def test_read_over_the_ends_of_parts(self):
        numbers = list(range(65530, 131080)) + [196607, 196609]
        for run_keys in ((), (0,), (1,), (0, 1, 2, 3)):
            self.assertEqual(read_edges(packed(numbers, run_keys)), [65530, 131080, 196607, 196608, 196609, 196610])

    def test_join(self):
        left = [0, 10, 20, 30]
        right = [5, 20, 30, 40]
        self.assertEqual(join_edges(0, left, right), [5, 10])
        self.assertEqual(join_edges(1, left, right), [0, 40])
        self.assertEqual(join_edges(2, left, right), [0, 5, 10, 40])
        self.assertEqual(join_edges(3, left, right), [0, 5, 20, 30])
        self.assertEqual(join_edges(3, [0, 4294967296], right), [0, 5, 20, 30, 40, 4294967296])

    def test_count_within(self):
        edges = [10, 20, 30, 4294967296]
        self.assertEqual(count_within(edges, 0, 9), 0)
        self.assertEqual(count_within(edges, 0, 10), 1)
        self.assertEqual(count_within(edges, 19, 30), 2)
        self.assertEqual(count_within(edges, 4294967295, 4294967295), 1)
        self.assertEqual(count_within([], 0, 4294967295), 0)

    def test_flip(self):
        self.assertEqual(flip_edges([10, 20], 5, 9), [5, 20])
        self.assertEqual(flip_edges([10, 20], 10, 19), [])
        self.assertEqual(flip_edges([10, 20], 15, 4294967295), [10, 15, 20, 4294967296])
        self.assertEqual(flip_edges([10, 20], 15, 14), [10, 20])

    def test_move(self):
        edges = [0, 10, 20, 4294967296]
        self.assertEqual(move_edges(edges, 5), [5, 15, 25, 4294967296])
        self.assertEqual(move_edges(edges, -10), [10, 4294967286])
        self.assertEqual(move_edges(edges, -9), [0, 1, 11, 4294967287])
        self.assertEqual(move_edges(edges, 4294967276), [4294967276, 4294967286])
        self.assertEqual(move_edges(edges, 4294967275), [4294967275, 4294967285, 4294967295, 4294967296])


if __name__ == "__main__":
    unittest.main()
