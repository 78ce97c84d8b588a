"""Pairs of courses and what may follow them (points 7 and 8)."""

import itertools
import unittest

from by_the_words import all_shapes, courses_by_the_words, is_roof_by_the_words, table_by_the_words
from shinglelap.pairs import near_followers, next_pairs, pair_followers
from shinglelap.plan import Plan

# Eaves of 6 with the widths 2, 3 and 4, whose courses have the joints 2; 2, 4; 3; 4.
SIX = Plan(6, [2, 3, 4], 1, 1)


class FollowersTest(unittest.TestCase):
    def test_written_out(self):
        self.assertEqual(near_followers(SIX), [[2, 3], [2], [0, 1, 3], [0, 2]])
        self.assertEqual(
            pair_followers(SIX),
            {
                (0, 2): [3],
                (0, 3): [2],
                (1, 2): [],
                (2, 0): [3],
                (2, 1): [],
                (2, 3): [0],
                (3, 0): [2],
                (3, 2): [0],
            },
        )

    def test_without_a_course(self):
        plan = Plan(1, [2], 1, 1)
        self.assertEqual(near_followers(plan), [])
        self.assertEqual(pair_followers(plan), {})

    def test_without_a_pair(self):
        plan = Plan(4, [2], 1, 1)
        self.assertEqual(near_followers(plan), [[]])
        self.assertEqual(pair_followers(plan), {})

    def test_against_roofs(self):
        for eaves, widths in all_shapes():
            rows = courses_by_the_words(eaves, widths)
            for near, far in ((1, 2), (2, 1), (3, 3)):
                self.check_followers(Plan(eaves, widths, near, far), rows)

    def check_followers(self, plan, rows):
        near = table_by_the_words(rows, plan.near)
        far = table_by_the_words(rows, plan.far)
        numbers = range(len(rows))
        roofs = [pair for pair in itertools.product(numbers, repeat=2) if is_roof_by_the_words(near, far, pair)]
        followers = pair_followers(plan)
        self.assertEqual(list(followers), roofs)
        self.assertEqual(
            near_followers(plan),
            [[upper for upper in numbers if (lower, upper) in followers] for lower in numbers],
        )
        for pair in roofs:
            upon = [number for number in numbers if is_roof_by_the_words(near, far, pair + (number,))]
            self.assertEqual(followers[pair], upon)


class NextPairsTest(unittest.TestCase):
    def test_written_out(self):
        followers = pair_followers(SIX)
        self.assertEqual(next_pairs(followers, []), [])
        self.assertEqual(next_pairs(followers, [(1, 2), (2, 1)]), [])
        self.assertEqual(next_pairs(followers, [(3, 2)]), [(2, 0)])
        self.assertEqual(next_pairs(followers, [(2, 0), (0, 2), (1, 2)]), [(0, 3), (2, 3)])

    def test_each_once_and_in_order(self):
        followers = {(0, 1): [3, 2], (4, 1): [2, 3], (5, 0): [7]}
        self.assertEqual(next_pairs(followers, [(4, 1), (0, 1), (5, 0)]), [(0, 7), (1, 2), (1, 3)])

    def test_what_is_handed_in_stays(self):
        followers = pair_followers(SIX)
        pairs = [(2, 0), (0, 2)]
        next_pairs(followers, pairs)
        self.assertEqual(pairs, [(2, 0), (0, 2)])
        self.assertEqual(followers, pair_followers(SIX))


if __name__ == "__main__":
    unittest.main()
