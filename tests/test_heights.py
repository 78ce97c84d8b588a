"""How high roofs go (points 1, 7 and 8)."""

import inspect
import unittest

from by_the_words import (
    all_distances,
    all_shapes,
    courses_by_the_words,
    ends_by_the_words,
    is_roof_by_the_words,
    table_by_the_words,
)
from shinglelap.heights import Heights
from shinglelap.plan import Plan

FIELDS = ["endless", "lead", "ring", "greatest", "ends"]


class TablePlan(Plan):
    """A plan of 36 courses which are apart by what tables tell, not by their joints.

    No plan of the measures allowed has a greatest height above 4, and where one is endless a ring of at
    most 3 courses is found. What lies beyond that is tried with such tables.
    """

    def __init__(self, near_table, far_table):
        Plan.__init__(self, 12, [2, 3, 4], 1, 1)
        self.near_table = near_table
        self.far_table = far_table

    def near_kept(self, one, other):
        return self.near_table[one][other]

    def far_kept(self, one, other):
        return self.far_table[one][other]


def table_by_steps(steps, round_about=None):
    """Those are apart whose numbers differ by one of the steps, perhaps the other way round a ring."""

    def step(one, other):
        way = abs(one - other)
        return way if round_about is None else min(way, round_about - way)

    return [[step(one, other) in steps for other in range(36)] for one in range(36)]


def table_by_pairs(pairs):
    """Those are apart that stand in the pairs, either way round."""
    return [[(one, other) in pairs or (other, one) in pairs for other in range(36)] for one in range(36)]


class HeightsCase(unittest.TestCase):
    def check(self, heights, near, far):
        """Holds what is told against roofs by the tables `near` and `far` of the courses."""
        self.assertIs(type(heights.endless), bool)
        for told in (heights.lead, heights.ring, heights.ends):
            self.assertIs(type(told), list)
        if heights.endless:
            self.check_endless(heights, near, far)
        else:
            self.check_greatest(heights, near, far)

    def check_endless(self, heights, near, far):
        self.assertIsNone(heights.greatest)
        self.assertEqual(heights.ends, [])
        self.assertGreaterEqual(len(heights.ring), 1)
        self.assertLessEqual(len(heights.lead) + len(heights.ring), 1400)
        for number in heights.lead + heights.ring:
            self.assertIs(type(number), int)
        for times in (1, 2, 3, 4, 7):
            self.assertTrue(is_roof_by_the_words(near, far, heights.lead + heights.ring * times))

    def check_greatest(self, heights, near, far):
        self.assertEqual(heights.lead, [])
        self.assertEqual(heights.ring, [])
        # Roofs put together course by course come to an end only where there is a greatest height.
        self.assertEqual((heights.greatest, heights.ends), ends_by_the_words(near, far))
        self.assertIs(type(heights.greatest), int)
        for pairs in heights.ends:
            self.assertIs(type(pairs), list)
            for pair in pairs:
                self.assertIs(type(pair), tuple)


class InterfaceTest(unittest.TestCase):
    def test_arguments(self):
        self.assertEqual(list(inspect.signature(Heights).parameters), ["plan"])

    def test_fields(self):
        for plan in (Plan(1, [2], 1, 1), Plan(5, [2, 3], 1, 1), Plan(8, [8], 1, 1)):
            heights = Heights(plan=plan)
            for name in FIELDS:
                self.assertTrue(hasattr(heights, name))


class GreatestTest(HeightsCase):
    def check_told(self, plan, greatest, ends):
        heights = Heights(plan)
        self.assertIs(heights.endless, False)
        self.assertEqual(heights.lead, [])
        self.assertEqual(heights.ring, [])
        self.assertEqual(heights.greatest, greatest)
        self.assertEqual(heights.ends, ends)

    def test_without_a_course(self):
        for eaves, widths in ((1, [2]), (3, [2]), (7, [2, 4, 8]), (12, [7, 8])):
            for near, far in all_distances():
                self.check_told(Plan(eaves, widths, near, far), 0, [])

    def test_without_a_pair(self):
        for near, far in all_distances():
            self.check_told(Plan(4, [2], near, far), 1, [])
        self.check_told(Plan(5, [2, 3], 2, 1), 1, [])
        self.check_told(Plan(9, [2, 3, 4], 6, 1), 1, [])

    def test_two(self):
        # The joints are 2 and 3: apart by 1, but neither course from itself.
        for far in range(1, 7):
            self.check_told(Plan(5, [2, 3], 1, far), 2, [[(0, 1), (1, 0)]])

    def test_three(self):
        # The joints are 3, 4 and 5: the first and the last have the middle one between them.
        plan = Plan(8, [3, 4, 5], 1, 2)
        self.assertEqual(plan.courses(), [[3, 5], [4, 4], [5, 3]])
        pairs = [(0, 1), (0, 2), (1, 0), (1, 2), (2, 0), (2, 1)]
        self.check_told(plan, 3, [pairs, [(1, 0), (1, 2)]])

    def test_four(self):
        # The joints are 2, 4; 2, 7; 4; 5; 5, 7. By the far distance only 1 and 2, and 1 and 3 are apart,
        # so the roofs of height 3 are 1 2 3 and 1 3 2 either way up, those of height 4 are 1 2 3 1 and 1 3 2 1.
        plan = Plan(9, [2, 4, 5], 1, 2)
        self.assertEqual(plan.courses(), [[2, 2, 5], [2, 5, 2], [4, 5], [5, 4], [5, 2, 2]])
        two = [(0, 3), (0, 4), (1, 2), (1, 3), (2, 1), (2, 3), (2, 4), (3, 0), (3, 1), (3, 2), (4, 0), (4, 2)]
        self.check_told(plan, 4, [two, [(2, 1), (2, 3), (3, 1), (3, 2)], [(2, 1), (3, 1)]])

    def test_three_and_four_elsewhere(self):
        for measures, greatest in (
            ((6, [2, 3, 4], 1, 2), 3),
            ((12, [4, 6, 8], 2, 4), 3),
            ((10, [2, 3, 5], 1, 2), 4),
            ((11, [2, 5, 6], 1, 2), 4),
            ((11, [3, 5, 6], 1, 2), 4),
            ((12, [2, 3, 6], 1, 2), 4),
            ((12, [3, 4, 6], 1, 2), 4),
        ):
            with self.subTest(measures=measures):
                heights = Heights(Plan(*measures))
                self.assertIs(heights.endless, False)
                self.assertEqual(heights.greatest, greatest)
                self.assertEqual(len(heights.ends), greatest - 1)

    def test_more_than_four(self):
        # Only one up or down, and never back: as high as there are courses.
        tables = table_by_steps([1]), table_by_steps([2])
        heights = Heights(TablePlan(*tables))
        self.assertEqual(heights.greatest, 36)
        self.assertEqual(heights.ends[-1], [(1, 0), (34, 35)])
        self.check(heights, *tables)

    def test_more_than_four_by_greater_steps(self):
        for near_steps, far_steps in (([2], [4]), ([5], [10]), ([1, 7], [8]), ([3, 4], [7]), ([4, 9], [13, 18])):
            tables = table_by_steps(near_steps), table_by_steps(far_steps)
            with self.subTest(near_steps=near_steps, far_steps=far_steps):
                heights = Heights(TablePlan(*tables))
                self.assertIs(heights.endless, False)
                self.assertGreater(heights.greatest, 4)
                self.check(heights, *tables)


class EndlessTest(HeightsCase):
    def check_told(self, plan):
        heights = Heights(plan)
        self.assertIs(heights.endless, True)
        self.assertIsNone(heights.greatest)
        self.assertEqual(heights.ends, [])
        self.assertGreaterEqual(len(heights.ring), 1)
        self.assertLessEqual(len(heights.lead) + len(heights.ring), 1400)
        for times in range(1, 12):
            self.assertIs(plan.is_roof(heights.lead + heights.ring * times), True)

    def test_a_course_without_a_joint(self):
        for near, far in all_distances():
            self.check_told(Plan(8, [8], near, far))
            self.check_told(Plan(8, [2, 3, 8], near, far))
            self.check_told(Plan(4, [4, 5], near, far))

    def test_every_course_with_a_joint(self):
        self.check_told(Plan(6, [2, 3, 4], 1, 1))
        self.check_told(Plan(8, [3, 4, 5], 1, 1))
        self.check_told(Plan(8, [2, 4, 6], 2, 2))
        self.check_told(Plan(12, [4, 6, 8], 2, 1))
        self.check_told(Plan(12, [2, 3, 4], 1, 1))

    def test_a_long_ring(self):
        tables = table_by_steps([1], 36), table_by_steps([2], 36)
        plan = TablePlan(*tables)
        self.check_told(plan)
        self.assertGreaterEqual(len(Heights(plan).ring), 36)
        self.check(Heights(plan), *tables)

    def test_every_pair(self):
        tables = table_by_steps(range(36)), table_by_steps(range(36))
        self.check_told(TablePlan(*tables))
        self.check(Heights(TablePlan(*tables)), *tables)

    def test_pairs_that_only_lie_above_a_ring(self):
        # 3, 4 and 5 go round; 1 and 0 may lie upon 4 and 3, and nothing upon them.
        ring = [(3, 4), (4, 5), (3, 5)]
        tables = table_by_pairs(ring + [(3, 1), (1, 0)]), table_by_pairs(ring + [(4, 1), (3, 0)])
        plan = TablePlan(*tables)
        self.assertIs(plan.is_roof([5, 4, 3, 1, 0]), True)
        self.check_told(plan)
        self.check(Heights(plan), *tables)
        # With higher numbers, so that such a pair is the last of all.
        ring = [(0, 1), (1, 2), (0, 2)]
        tables = table_by_pairs(ring + [(0, 34), (34, 35)]), table_by_pairs(ring + [(1, 34), (0, 35)])
        self.check_told(TablePlan(*tables))
        self.check(Heights(TablePlan(*tables)), *tables)


class AllPlansTest(HeightsCase):
    def test_of_all_measures(self):
        heights_told = set()
        for eaves, widths in all_shapes():
            rows = courses_by_the_words(eaves, widths)
            tables = [table_by_the_words(rows, least) for least in range(7)]
            for near, far in all_distances():
                heights = Heights(Plan(eaves, widths, near, far))
                self.check(heights, tables[near], tables[far])
                heights_told.add(heights.greatest)
        self.assertEqual(heights_told, {None, 0, 1, 2, 3, 4})


class ApartTest(HeightsCase):
    PLANS = (
        (9, [2, 4, 5], 1, 2),
        (6, [2, 3, 4], 1, 1),
        (8, [8], 3, 3),
        (5, [2, 3], 1, 1),
        (4, [2], 1, 1),
        (1, [2], 1, 1),
    )

    def told(self, heights):
        return [repr(getattr(heights, name)) for name in FIELDS]

    def test_two_objects_are_apart(self):
        for measures in self.PLANS:
            plan = Plan(*measures)
            one = Heights(plan)
            other = Heights(plan)
            before = self.told(one)
            self.assertEqual(self.told(other), before)
            for changed in [other.lead, other.ring] + other.ends + [other.ends]:
                changed.append((0, 0))
            self.assertEqual(self.told(one), before)
            self.assertEqual(self.told(Heights(plan)), before)

    def test_the_plan_stays_as_it_is(self):
        for measures in self.PLANS:
            plan = Plan(*measures)
            courses = plan.courses()
            heights = Heights(plan)
            for changed in [heights.lead, heights.ring] + heights.ends + [heights.ends]:
                changed.append((0, 0))
            self.assertEqual(plan.courses(), courses)
            self.assertEqual((plan.eaves, plan.widths, plan.near, plan.far), measures)
            self.assertEqual(self.told(Heights(plan)), self.told(Heights(Plan(*measures))))


if __name__ == "__main__":
    unittest.main()
