"""Roofs mirrored and the other way up (points 1, 5, 7 and 12)."""

import inspect
import itertools
import random
import unittest

from by_the_words import (
    FAR_OUT,
    all_distances,
    all_shapes,
    courses_by_the_words,
    is_roof_by_the_words,
    roofs_by_height,
    table_by_the_words,
    tables_of,
)
from refusals import RefusalCase
from shinglelap import turns
from shinglelap.plan import Plan
from shinglelap.turns import mirrored, upturned

# The courses are [8], [3, 5] and [5, 3], with no joint, the joint 3 and the joint 5.
THREE = (8, [3, 5, 8], 2, 1)
MEASURES = (
    (1, [2], 1, 1),
    (8, [8], 6, 6),
    (5, [2, 3], 1, 1),
    (6, [2, 3, 4], 1, 1),
    THREE,
    (8, [3, 4, 5], 1, 2),
    (8, [2, 4, 8], 2, 3),
    (9, [2, 4, 5], 1, 2),
    (12, [2, 3, 4], 1, 1),
)


class InterfaceTest(unittest.TestCase):
    def test_arguments(self):
        for name in ("mirrored", "upturned"):
            self.assertEqual(list(inspect.signature(getattr(turns, name)).parameters), ["plan", "roof"])

    def test_by_name(self):
        plan = Plan(*THREE)
        self.assertEqual(mirrored(plan=plan, roof=[0, 1]), [0, 2])
        self.assertEqual(upturned(plan=plan, roof=[0, 1]), [1, 0])


class TurnsTest(RefusalCase):
    def check(self, plan, roof, rows):
        """Holds both against the rows themselves; `rows` are all courses in their order."""
        laid = [rows[number] for number in roof]
        for kind in (list, tuple):
            handed = kind(roof)
            across = mirrored(plan, handed)
            upside = upturned(plan, handed)
            self.assertEqual(handed, kind(roof))
            for told in (across, upside):
                self.assertIs(type(told), list)
                for number in told:
                    self.assertIs(type(number), int)
            self.assertEqual([rows[number] for number in across], [row[::-1] for row in laid])
            self.assertEqual([rows[number] for number in upside], laid[::-1])
            self.assertEqual(mirrored(plan, kind(across)), list(roof))
            self.assertEqual(upturned(plan, kind(upside)), list(roof))

    def test_written_out(self):
        plan = Plan(*THREE)
        for roof, across, upside in (
            ([], [], []),
            ([0], [0], [0]),
            ([1], [2], [1]),
            ([1, 2], [2, 1], [2, 1]),
            ([0, 1], [0, 2], [1, 0]),
            ([1, 0, 2], [2, 0, 1], [2, 0, 1]),
            ([0, 0, 1, 2, 0], [0, 0, 2, 1, 0], [0, 2, 1, 0, 0]),
            ([0, 1, 2, 0, 0, 1], [0, 2, 1, 0, 0, 2], [1, 0, 0, 2, 1, 0]),
        ):
            self.assertEqual(mirrored(plan, roof), across)
            self.assertEqual(upturned(plan, roof), upside)
        # Courses by their joints: 2, 4; 2, 7; 4; 5; 5, 7.
        plan = Plan(9, [2, 4, 5], 1, 2)
        self.assertEqual(mirrored(plan, [1, 2, 3, 1]), [1, 3, 2, 1])
        self.assertEqual(upturned(plan, [1, 2, 3, 1]), [1, 3, 2, 1])
        self.assertEqual(mirrored(plan, [0, 4]), [4, 0])
        self.assertEqual(mirrored(plan, [2, 4]), [3, 0])
        self.assertEqual(upturned(plan, [2, 4]), [4, 2])

    def test_each_small_roof(self):
        for measures in MEASURES:
            plan = Plan(*measures)
            near, far = tables_of(measures)
            rows = courses_by_the_words(*measures[:2])
            for roof in itertools.chain.from_iterable(roofs_by_height(near, far, 4)):
                self.check(plan, roof, rows)
                self.assertTrue(is_roof_by_the_words(near, far, mirrored(plan, roof)))
                self.assertTrue(is_roof_by_the_words(near, far, upturned(plan, roof)))

    def test_courses_and_pairs_of_all_plans(self):
        for eaves, widths in all_shapes():
            rows = courses_by_the_words(eaves, widths)
            for near, far in ((1, 1), (1, 3), (2, 1), (4, 2)):
                plan = Plan(eaves, widths, near, far)
                tables = table_by_the_words(rows, near), table_by_the_words(rows, far)
                for roof in itertools.chain.from_iterable(roofs_by_height(*tables, 2)):
                    self.check(plan, roof, rows)

    def test_high_roofs(self):
        draw = random.Random(30)
        for measures in ((8, [2, 3, 8], 1, 1), (8, [2, 4, 8], 2, 3), (12, [2, 3, 4], 1, 1)):
            plan = Plan(*measures)
            near, far = tables_of(measures)
            rows = courses_by_the_words(*measures[:2])
            for most in (5, 20, 21, 100):
                roof = []
                for place in range(most):
                    upon = [number for number in range(len(rows))
                            if is_roof_by_the_words(near, far, roof[-2:] + [number])]
                    roof += draw.sample(upon, min(1, len(upon)))
                self.check(plan, roof, rows)

    def test_very_high_roofs(self):
        # A roof may be higher here than the heights that are counted.
        plan = Plan(6, [2, 3, 4], 1, 1)
        roof = [0, 2, 3] * 666 + [0, 2]
        self.assertEqual(mirrored(plan, roof), [3, 2, 0] * 666 + [3, 2])
        self.assertEqual(upturned(plan, roof), [2, 0] + [3, 2, 0] * 666)
        plan = Plan(8, [8], 6, 6)
        for length in (20, 21, 40, 2000):
            self.assertEqual(mirrored(plan, [0] * length), [0] * length)
            self.assertEqual(upturned(plan, (0,) * length), [0] * length)

    def test_no_course(self):
        for near, far in all_distances():
            for measures in ((1, [2]), (7, [2, 4, 8]), (9, [2, 3, 4])):
                plan = Plan(*measures, near, far)
                for handed in ([], ()):
                    self.assertEqual(mirrored(plan, handed), [])
                    self.assertEqual(upturned(plan, handed), [])
                    self.assertIs(type(mirrored(plan, handed)), list)
                    self.assertIs(type(upturned(plan, handed)), list)

    def check_not_roof(self, plan, roof):
        for kind in (list, tuple):
            handed = kind(roof)
            self.check_refused("NotRoof", mirrored, plan, handed)
            self.check_refused("NotRoof", upturned, plan, handed)
            self.assertEqual(handed, kind(roof))

    def test_not_roof(self):
        near_only = Plan(8, [3, 5, 8], 3, 1)
        far_only = Plan(8, [3, 5, 8], 1, 3)
        for roof in ([1, 2], [2, 1], [1, 1], [0, 0, 1, 2], [1, 2, 0, 0], [0, 1, 1, 0]):
            self.check_not_roof(near_only, roof)
        for roof in ([1, 0, 2], [2, 0, 1], [1, 0, 1], [0, 1, 0, 2, 0], [1, 2, 1]):
            self.check_not_roof(far_only, roof)
        self.assertEqual(mirrored(near_only, [1, 0, 2]), [2, 0, 1])
        self.assertEqual(mirrored(far_only, [1, 2]), [2, 1])

    def test_number_that_no_course_has(self):
        for measures in MEASURES:
            plan = Plan(*measures)
            count = len(plan.courses())
            for number in (-1, -2, -count - 1, count, count + 1, FAR_OUT, -FAR_OUT):
                self.check_not_roof(plan, [number])
                self.check_not_roof(plan, [number] * 40)
        plan = Plan(*THREE)
        for number in (-1, -3, 3, FAR_OUT):
            for place in range(6):
                roof = [0] * 5
                roof.insert(place, number)
                self.check_not_roof(plan, roof)

    def test_long_lists_that_are_no_roof(self):
        plan = Plan(6, [2, 3, 4], 1, 1)
        roof = [0, 2, 3] * 666 + [0, 2]
        for place in (0, 1, 20, 21, 1000, 1998, 1999):
            for wrong in (1, -1, 4, FAR_OUT):
                changed = list(roof)
                changed[place] = wrong
                self.check_not_roof(plan, changed)
        self.check_not_roof(plan, [0] * 2000)
        self.check_not_roof(plan, [FAR_OUT] * 2000)
        self.check_not_roof(Plan(8, [8], 6, 6), [0] * 1999 + [1])
        self.check_not_roof(Plan(1, [2], 1, 1), [0] * 21)

    def test_all_short_lists(self):
        for measures in ((6, [2, 3, 4], 1, 1), (8, [3, 5, 8], 2, 3), (5, [2, 3], 1, 1), (1, [2], 1, 1)):
            plan = Plan(*measures)
            near, far = tables_of(measures)
            rows = courses_by_the_words(*measures[:2])
            for length in range(5):
                for roof in itertools.product(range(-1, len(rows) + 1), repeat=length):
                    if is_roof_by_the_words(near, far, roof):
                        self.check(plan, roof, rows)
                    else:
                        self.check_not_roof(plan, roof)

    def test_new_at_each_call(self):
        plan = Plan(*THREE)
        for roof in ([], [0], [1, 2], [0, 1, 2, 0]):
            for turned in (mirrored, upturned):
                handed = list(roof)
                told = turned(plan, handed)
                before = list(told)
                self.assertIsNot(told, handed)
                told.append(9)
                told[0] = 8
                self.assertEqual(handed, roof)
                self.assertEqual(turned(plan, handed), before)
                handed.append(7)
                self.assertEqual(turned(plan, roof), before)

    def test_the_plan_stays_as_it_is(self):
        plan = Plan(*THREE)
        courses = plan.courses()
        for turned in (mirrored, upturned):
            turned(plan, [0, 1, 2]).clear()
            self.check_refused("NotRoof", turned, plan, [1, 1])
            self.assertEqual(plan.courses(), courses)
            self.assertEqual((plan.eaves, plan.widths, plan.near, plan.far), THREE)


if __name__ == "__main__":
    unittest.main()
