"""What several modules need: pairs and tops of roofs, what may follow them, and two checks (points 7 to 11)."""

import itertools
import unittest

from by_the_words import (
    all_shapes,
    courses_by_the_words,
    is_roof_by_the_words,
    roofs_by_height,
    table_by_the_words,
    tables_of,
)
from refusals import RefusalCase
from shinglelap.pairs import (
    check_height,
    check_roof,
    near_followers,
    next_pairs,
    pair_followers,
    place_among,
    raised,
    shares,
    top_followers,
    top_of,
    way_at,
    ways_by_steps,
)
from shinglelap.plan import Plan

# Eaves of 6 with the widths 2, 3 and 4, whose courses have the joints 2; 2, 4; 3; 4.
SIX_MEASURES = (6, [2, 3, 4], 1, 1)
SIX = Plan(*SIX_MEASURES)


class FollowersTest(unittest.TestCase):
    def test_written_out(self):
        self.assertEqual(near_followers(SIX), [[2, 3], [2], [0, 1, 3], [0, 2]])
        self.assertEqual(
            pair_followers(SIX),
            {
                (0, 2): [3],
                (0, 3): [2],
                (1, 2): [],
                (2, 0): [3],
                (2, 1): [],
                (2, 3): [0],
                (3, 0): [2],
                (3, 2): [0],
            },
        )

    def test_without_a_course(self):
        plan = Plan(1, [2], 1, 1)
        self.assertEqual(near_followers(plan), [])
        self.assertEqual(pair_followers(plan), {})

    def test_without_a_pair(self):
        plan = Plan(4, [2], 1, 1)
        self.assertEqual(near_followers(plan), [[]])
        self.assertEqual(pair_followers(plan), {})

    def test_against_roofs(self):
        for eaves, widths in all_shapes():
            rows = courses_by_the_words(eaves, widths)
            for near, far in ((1, 2), (2, 1), (3, 3)):
                self.check_followers(Plan(eaves, widths, near, far), rows)

    def check_followers(self, plan, rows):
        near = table_by_the_words(rows, plan.near)
        far = table_by_the_words(rows, plan.far)
        numbers = range(len(rows))
        roofs = [pair for pair in itertools.product(numbers, repeat=2) if is_roof_by_the_words(near, far, pair)]
        followers = pair_followers(plan)
        self.assertEqual(list(followers), roofs)
        self.assertEqual(
            near_followers(plan),
            [[upper for upper in numbers if (lower, upper) in followers] for lower in numbers],
        )
        for pair in roofs:
            upon = [number for number in numbers if is_roof_by_the_words(near, far, pair + (number,))]
            self.assertEqual(followers[pair], upon)


class NextPairsTest(unittest.TestCase):
    def test_written_out(self):
        followers = pair_followers(SIX)
        self.assertEqual(next_pairs(followers, []), [])
        self.assertEqual(next_pairs(followers, [(1, 2), (2, 1)]), [])
        self.assertEqual(next_pairs(followers, [(3, 2)]), [(2, 0)])
        self.assertEqual(next_pairs(followers, [(2, 0), (0, 2), (1, 2)]), [(0, 3), (2, 3)])

    def test_each_once_and_in_order(self):
        followers = {(0, 1): [3, 2], (4, 1): [2, 3], (5, 0): [7]}
        self.assertEqual(next_pairs(followers, [(4, 1), (0, 1), (5, 0)]), [(0, 7), (1, 2), (1, 3)])

    def test_what_is_handed_in_stays(self):
        followers = pair_followers(SIX)
        pairs = [(2, 0), (0, 2)]
        next_pairs(followers, pairs)
        self.assertEqual(pairs, [(2, 0), (0, 2)])
        self.assertEqual(followers, pair_followers(SIX))


class TopsTest(unittest.TestCase):
    def test_top_of(self):
        for roof, top in (([], ()), ([3], (3,)), ([3, 1], (3, 1)), ([5, 3, 1], (3, 1)), ((5, 3, 1), (3, 1))):
            self.assertEqual(top_of(roof), top)

    def test_raised(self):
        self.assertEqual(raised((), 4), (4,))
        self.assertEqual(raised((2,), 4), (2, 4))
        self.assertEqual(raised((7, 2), 4), (2, 4))

    def test_followers(self):
        followers = top_followers(SIX)
        self.assertEqual(followers.pop(()), [0, 1, 2, 3])
        for number, uppers in enumerate(near_followers(SIX)):
            self.assertEqual(followers.pop((number,)), uppers)
        self.assertEqual(followers, pair_followers(SIX))

    def test_without_a_course(self):
        followers = top_followers(Plan(1, [2], 1, 1))
        self.assertEqual(followers, {(): []})
        self.assertEqual(ways_by_steps(followers, 2), [{(): 1}, {(): 0}, {(): 0}])

    def test_every_top_reached_has_followers(self):
        for eaves, widths in all_shapes():
            followers = top_followers(Plan(eaves, widths, 1, 2))
            for top, numbers in followers.items():
                for number in numbers:
                    self.assertIn(raised(top, number), followers)


class WaysTest(unittest.TestCase):
    def test_against_all_roofs(self):
        followers = top_followers(SIX)
        ways = ways_by_steps(followers, 5)
        roofs = roofs_by_height(*tables_of(SIX_MEASURES), 7)
        self.assertEqual(len(ways), 6)
        for steps, found in enumerate(ways):
            self.assertEqual(sorted(found), sorted(followers))
            for top in followers:
                self.check_ways(followers, ways, steps, top, roofs)

    def check_ways(self, followers, ways, steps, top, roofs):
        upon = [roof[len(top):] for roof in roofs[len(top) + steps] if tuple(roof[:len(top)]) == top]
        self.assertEqual(ways[steps][top], len(upon))
        self.assertEqual([way_at(followers, ways, top, steps, number) for number in range(len(upon))], upon)
        if steps > 0:
            begun = [sum(way[0] == number for way in upon) for number in followers[top]]
            self.assertEqual(shares(followers, ways[steps - 1], top), begun)

    def test_place_among(self):
        amounts = [2, 0, 3, 1]
        self.assertEqual([place_among(amounts, number) for number in range(6)], [0, 0, 2, 2, 2, 3])
        self.assertEqual(place_among([0, 0, 1], 0), 2)


class ChecksTest(RefusalCase):
    def test_height(self):
        for height in range(21):
            check_height(height)
        for height in (-1, 21, 10 ** 29, -(10 ** 29)):
            self.check_refused("BadHeight", check_height, height)

    def test_roof(self):
        for roof in ([], [0], [0, 2, 3, 0], (0, 2, 3)):
            check_roof(SIX, roof)
        for roof in ([0, 0], [0, 2, 0], [4], [-1], (0, 1)):
            self.check_refused("NotRoof", check_roof, SIX, roof)


if __name__ == "__main__":
    unittest.main()
