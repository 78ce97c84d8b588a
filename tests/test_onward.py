"""The way on (points 1, 7 and 11)."""

import inspect
import itertools
import random
import unittest

from by_the_words import (
    FAR_OUT,
    all_distances,
    all_shapes,
    courses_by_the_words,
    first_way_by_all_ways,
    is_roof_by_the_words,
    roofs_by_height,
    table_by_the_words,
    tables_of,
    way_on_by_the_words,
)
from refusals import RefusalCase
from shinglelap.onward import way_on
from shinglelap.plan import Plan

NO_COURSE = (1, [2], 1, 1)
ONE_COURSE = (8, [8], 6, 6)
# The courses are [8], [3, 5] and [5, 3], with no joint, the joint 3 and the joint 5.
THREE = (8, [3, 5, 8], 2, 1)
MEASURES = (
    NO_COURSE,
    (4, [2], 1, 1),
    ONE_COURSE,
    (5, [2, 3], 1, 1),
    (6, [2, 3, 4], 1, 1),
    (6, [2, 4], 2, 3),
    (8, [3, 4, 5], 1, 2),
    (8, [3, 4, 5], 1, 1),
    THREE,
    (8, [2, 3, 8], 1, 1),
    (8, [2, 4, 8], 2, 3),
    (9, [2, 4, 5], 1, 2),
    (10, [2, 3, 5], 1, 2),
    (12, [2, 3, 4], 1, 1),
    (12, [4, 6, 8], 2, 1),
)
BAD_HEIGHTS = (-1, 21, -2, 22, -20, -21, 40, 1000, FAR_OUT, -FAR_OUT)


class InterfaceTest(unittest.TestCase):
    def test_arguments(self):
        self.assertEqual(list(inspect.signature(way_on).parameters), ["plan", "laid", "height"])

    def test_by_name(self):
        self.assertEqual(way_on(plan=Plan(5, [2, 3], 1, 1), laid=[0], height=2), (2, [1]))

    def test_kinds(self):
        plan = Plan(*THREE)
        for laid, height in (([], 0), ([], 20), ([1], 1), ([1], 20), ((1,), 20), ((1, 0), 1), ([0] * 20, 20)):
            told = way_on(plan, laid, height)
            self.assertIs(type(told), tuple)
            self.assertEqual(len(told), 2)
            self.assertIs(type(told[0]), int)
            self.assertIs(type(told[1]), list)
            for number in told[1]:
                self.assertIs(type(number), int)


class WayOnTest(unittest.TestCase):
    def check(self, plan, laid, height, expected):
        for kind in (list, tuple):
            handed = kind(laid)
            self.assertEqual(way_on(plan, handed, height), expected)
            self.assertEqual(handed, kind(laid))

    def test_written_out(self):
        # The joints are 2; 2, 4; 3; 4.
        plan = Plan(6, [2, 3, 4], 1, 1)
        self.check(plan, [], 1, (1, [0]))
        self.check(plan, [], 2, (2, [0, 2]))
        self.check(plan, [], 5, (5, [0, 2, 3, 0, 2]))
        self.check(plan, [3], 4, (4, [0, 2, 3]))
        self.check(plan, [0, 3], 5, (5, [2, 0, 3]))
        # Upon 2 the first course that can follow is 0, but upon 2 and 1 there is none.
        self.check(plan, [2], 2, (2, [0]))
        self.check(plan, [2, 1], 2, (2, []))
        self.check(plan, [2, 1], 20, (2, []))
        self.check(plan, [1], 20, (2, [2]))

    def test_a_first_course_that_leads_less_high_is_passed_over(self):
        # The roofs of height 3 are 1 2 3 and 1 3 2 either way up, those of height 4 are 1 2 3 1 and 1 3 2 1.
        plan = Plan(9, [2, 4, 5], 1, 2)
        self.check(plan, [], 1, (1, [0]))
        self.check(plan, [], 2, (2, [0, 3]))
        self.check(plan, [], 3, (3, [1, 2, 3]))
        self.check(plan, [], 4, (4, [1, 2, 3, 1]))
        self.check(plan, [], 5, (4, [1, 2, 3, 1]))
        self.check(plan, [], 20, (4, [1, 2, 3, 1]))
        self.check(plan, [0], 20, (2, [3]))
        self.check(plan, [1], 2, (2, [2]))
        self.check(plan, [1], 20, (4, [2, 3, 1]))
        self.check(plan, [2], 2, (2, [1]))
        self.check(plan, [2], 3, (3, [3, 1]))
        self.check(plan, [2], 20, (3, [3, 1]))
        self.check(plan, [1, 3], 20, (4, [2, 1]))
        self.check(plan, [3, 1], 20, (2, []))

    def test_the_far_distance_is_kept_from_what_lies(self):
        # The joints are 3, 4 and 5, and from 3 only 5 is apart by 2.
        plan = Plan(8, [3, 4, 5], 1, 2)
        self.check(plan, [0, 1], 3, (3, [2]))
        self.check(plan, [0, 2], 3, (2, []))
        self.check(plan, [0, 1, 2], 4, (3, []))

    def test_not_greater_than_what_lies(self):
        for measures in MEASURES:
            plan = Plan(*measures)
            for roofs in roofs_by_height(*tables_of(measures), 3):
                for laid in roofs[:40]:
                    for height in range(len(laid) + 1):
                        self.check(plan, laid, height, (len(laid), []))
        plan = Plan(*ONE_COURSE)
        for length in range(21):
            for height in range(length + 1):
                self.check(plan, [0] * length, height, (length, []))

    def test_nothing_lies(self):
        for measures in MEASURES:
            plan = Plan(*measures)
            near, far = tables_of(measures)
            for height in range(21):
                self.check(plan, [], height, way_on_by_the_words(near, far, [], height))

    def test_without_a_course(self):
        for eaves, widths in ((1, [2]), (3, [2]), (7, [2, 4, 8]), (12, [7, 8])):
            for near, far in ((1, 1), (6, 6), (2, 5)):
                for height in range(21):
                    self.check(Plan(eaves, widths, near, far), [], height, (0, []))

    def test_no_course_can_follow(self):
        for near, far in all_distances():
            plan = Plan(4, [2], near, far)
            for height in range(1, 21):
                self.check(plan, [0], height, (1, []))
                self.check(plan, [], height, (1, [0]))
        for height in range(21):
            self.check(Plan(5, [2, 3], 1, 1), [1, 0], height, (2, []))

    def test_up_to_twenty(self):
        plan = Plan(*ONE_COURSE)
        for length in range(21):
            for height in range(length, 21):
                self.check(plan, [0] * length, height, (height, [0] * (height - length)))

    def test_against_all_ways_of_all_plans(self):
        draw = random.Random(20)
        for eaves, widths in all_shapes():
            rows = courses_by_the_words(eaves, widths)
            tables = [table_by_the_words(rows, least) for least in range(7)]
            for near, far in all_distances():
                # Every plan once from nothing, and from a roof and to a height that are drawn.
                plan = Plan(eaves, widths, near, far)
                self.check_all_ways(plan, tables[near], tables[far], [], 4)
                roofs = roofs_by_height(tables[near], tables[far], 2)
                laid = draw.choice(roofs[draw.randrange(3)] or [[]])
                self.check_all_ways(plan, tables[near], tables[far], laid, draw.randrange(6))

    def check_all_ways(self, plan, near, far, laid, height):
        self.assertEqual(way_on(plan, laid, height), first_way_by_all_ways(near, far, laid, height))

    def test_against_all_ways_from_each_small_roof(self):
        for measures in MEASURES:
            plan = Plan(*measures)
            near, far = tables_of(measures)
            for roofs in roofs_by_height(near, far, 3):
                for laid in roofs[:60]:
                    for height in range(6):
                        self.check_all_ways(plan, near, far, laid, height)

    def test_step_by_step_up_to_twenty(self):
        draw = random.Random(21)
        for measures in MEASURES:
            plan = Plan(*measures)
            near, far = tables_of(measures)
            roofs = list(itertools.chain.from_iterable(roofs_by_height(near, far, 4)))
            for laid in draw.sample(roofs, min(12, len(roofs))):
                for height in sorted({20, draw.randrange(21), draw.randrange(21)}):
                    reached, way = way_on(plan, laid, height)
                    self.assertEqual((reached, way), way_on_by_the_words(near, far, laid, height))
                    self.assertEqual(reached, len(laid) + len(way))
                    self.assertTrue(is_roof_by_the_words(near, far, laid + way))

    def test_from_higher_roofs(self):
        draw = random.Random(22)
        for measures in ((8, [2, 3, 8], 1, 1), (8, [2, 4, 8], 2, 3), THREE, (12, [2, 3, 4], 1, 1)):
            plan = Plan(*measures)
            near, far = tables_of(measures)
            for time in range(12):
                laid = []
                for place in range(draw.randrange(21)):
                    upon = [number for number in range(len(near)) if is_roof_by_the_words(near, far, laid + [number])]
                    laid += draw.sample(upon, min(1, len(upon)))
                for height in (20, draw.randrange(21)):
                    self.check(plan, laid, height, way_on_by_the_words(near, far, laid, height))

    def test_new_at_each_call(self):
        plan = Plan(*THREE)
        for laid in ([], [1], [0] * 20):
            for height in (0, 20):
                reached, way = way_on(plan, laid, height)
                before = list(way)
                way.append(9)
                way[0] = 7
                self.assertEqual(way_on(plan, laid, height), (reached, before))

    def test_read_at_the_call_alone(self):
        plan = Plan(*THREE)
        handed = [1, 2]
        told = way_on(plan, handed, 5)
        way = list(told[1])
        handed.append(0)
        handed[0] = 0
        self.assertEqual(told, (5, way))
        self.assertEqual(way_on(plan, [1, 2], 5), told)

    def test_the_plan_stays_as_it_is(self):
        plan = Plan(*THREE)
        courses = plan.courses()
        way_on(plan, [1], 20)[1].append(5)
        self.assertEqual(plan.courses(), courses)
        self.assertEqual((plan.eaves, plan.widths, plan.near, plan.far), THREE)


class RefusedTest(RefusalCase):
    def test_bad_height(self):
        for measures in MEASURES:
            plan = Plan(*measures)
            for height in BAD_HEIGHTS:
                self.check_refused("BadHeight", way_on, plan, [], height)
        for height in BAD_HEIGHTS:
            self.check_refused("BadHeight", way_on, Plan(*THREE), [1, 0], height)
            self.check_refused("BadHeight", way_on, Plan(*ONE_COURSE), (0,) * 20, height)

    def test_bad_height_ahead_of_not_roof(self):
        plan = Plan(*THREE)
        for laid in ([1, 1], [3], [-1], [FAR_OUT] * 20, (1, 0, 1)):
            for height in BAD_HEIGHTS:
                self.check_refused("BadHeight", way_on, plan, laid, height)

    def test_what_lies_is_too_high(self):
        for measures in (ONE_COURSE, THREE, NO_COURSE, (5, [2, 3], 1, 1)):
            plan = Plan(*measures)
            for length in (21, 22, 40, 2000):
                for laid in ([0] * length, [-1] * length, [0] * length + [FAR_OUT], [1] * length):
                    for height in (0, 1, 19, 20, -1, 21, length, FAR_OUT):
                        for kind in (list, tuple):
                            handed = kind(laid)
                            self.assertRaises(ValueError, way_on, plan, handed, height)
                            self.check_refused("BadHeight", way_on, plan, handed, height)
                            self.assertEqual(handed, kind(laid))

    def test_not_roof(self):
        # The joints of 1 and 2 are apart by 2 and no more.
        near_only = Plan(8, [3, 5, 8], 3, 1)
        far_only = Plan(8, [3, 5, 8], 1, 3)
        for height in (0, 1, 2, 3, 20):
            for kind in (list, tuple):
                for laid in ([1, 2], [1, 1], [0, 2, 1], [1, 0, 1], [1, 2, 0, 0], [0] * 18 + [1, 2]):
                    handed = kind(laid)
                    self.check_refused("NotRoof", way_on, near_only, handed, height)
                    self.assertEqual(handed, kind(laid))
                for laid in ([1, 0, 2], [2, 0, 1], [0, 1, 0, 1, 0], [0] * 17 + [1, 0, 2]):
                    self.check_refused("NotRoof", way_on, far_only, kind(laid), height)
            self.assertEqual(way_on(near_only, [1, 0, 2], height)[0], max(3, height))
            self.assertEqual(way_on(far_only, [1, 2], height)[0], max(2, height))

    def test_number_that_no_course_has(self):
        for measures in MEASURES:
            plan = Plan(*measures)
            count = len(plan.courses())
            for number in (-1, -2, -count - 1, count, count + 1, FAR_OUT, -FAR_OUT):
                for height in (0, 1, 20):
                    self.check_refused("NotRoof", way_on, plan, [number], height)
                    self.check_refused("NotRoof", way_on, plan, [number] * 20, height)

    def test_refusals_change_nothing(self):
        plan = Plan(*THREE)
        before = way_on(plan, [1], 20)
        for name, laid, height in (("BadHeight", [1], 21), ("BadHeight", [0] * 21, 5), ("NotRoof", [1, 1], 5)):
            self.check_refused(name, way_on, plan, laid, height)
            self.assertEqual(way_on(plan, [1], 20), before)


if __name__ == "__main__":
    unittest.main()
