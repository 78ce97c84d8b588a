"""Plans, their courses and their roofs (points 1 to 7)."""

import inspect
import itertools
import unittest

from by_the_words import (
    FAR_OUT,
    all_distances,
    all_shapes,
    all_widths,
    courses_by_the_words,
    is_roof_by_the_words,
    table_by_the_words,
)
from shinglelap import errors
from shinglelap.errors import BadMeasure, NotFilled, RoofError, UnknownCourse
from shinglelap.plan import Plan
from shinglelap.rows import mirrored_row

# Eaves of 9 with the widths 2, 3 and 4: by their joints, which is not the order of their numbers.
COURSES_OF_NINE = [
    [2, 2, 2, 3],
    [2, 2, 3, 2],
    [2, 3, 4],
    [2, 3, 2, 2],
    [2, 4, 3],
    [3, 2, 4],
    [3, 2, 2, 2],
    [3, 3, 3],
    [3, 4, 2],
    [4, 2, 3],
    [4, 3, 2],
]
FAR_BEYOND = (FAR_OUT, -FAR_OUT, 10 ** 6, -(10 ** 6))
REFUSALS = [name for name in vars(errors) if inspect.isclass(getattr(errors, name)) and name != "RoofError"]


def plan_of_nine(near=1, far=1):
    return Plan(9, [2, 3, 4], near, far)


class InterfaceTest(unittest.TestCase):
    def test_arguments(self):
        told = {
            "courses": ["self"],
            "row": ["self", "number"],
            "number": ["self", "row"],
            "near_kept": ["self", "one", "other"],
            "far_kept": ["self", "one", "other"],
            "is_roof": ["self", "roof"],
        }
        for name, arguments in told.items():
            with self.subTest(name=name):
                self.assertEqual(list(inspect.signature(getattr(Plan, name)).parameters), arguments)
        self.assertEqual(list(inspect.signature(Plan).parameters), ["eaves", "widths", "near", "far"])

    def test_by_name(self):
        plan = Plan(eaves=9, widths=[2, 3, 4], near=1, far=2)
        self.assertEqual(plan.row(number=2), [2, 3, 4])
        self.assertEqual(plan.number(row=[2, 3, 4]), 2)
        self.assertIs(plan.near_kept(one=2, other=7), True)
        self.assertIs(plan.far_kept(one=2, other=7), False)
        self.assertIs(plan.is_roof(roof=[2, 7]), True)


class MadeTest(unittest.TestCase):
    def check_refused(self, eaves, widths, near, far):
        for kind in (list, tuple):
            handed = kind(widths)
            with self.subTest(eaves=eaves, widths=handed, near=near, far=far):
                with self.assertRaises(BadMeasure) as caught:
                    Plan(eaves, handed, near, far)
                self.assertIsInstance(caught.exception, RoofError)
                self.assertIsInstance(caught.exception, ValueError)
                for name in REFUSALS:
                    same = name == "BadMeasure"
                    self.assertIs(isinstance(caught.exception, getattr(errors, name)), same)
                self.assertEqual(handed, kind(widths))

    def check_fields(self, plan, eaves, widths, near, far):
        self.assertEqual((plan.eaves, plan.near, plan.far), (eaves, near, far))
        self.assertIs(type(plan.widths), list)
        self.assertEqual(plan.widths, widths)

    def test_there_are_twelve_refusals(self):
        self.assertEqual(len(REFUSALS), 12)

    def test_all_measures_in_range_are_taken(self):
        for eaves, widths in all_shapes():
            self.check_fields(Plan(eaves, widths, 1, 6), eaves, list(widths), 1, 6)
        for near, far in all_distances():
            self.check_fields(Plan(5, [2, 3], near, far), 5, [2, 3], near, far)

    def test_ends_of_the_ranges(self):
        for eaves, near, far in itertools.product((1, 12), (1, 6), (1, 6)):
            for widths in ([2], [8], [2, 8], [2, 7, 8], [2, 3, 8]):
                self.check_fields(Plan(eaves, widths, near, far), eaves, widths, near, far)

    def test_eaves_refused(self):
        for eaves in (0, 13, -1, 14, -12) + FAR_BEYOND:
            self.check_refused(eaves, [2, 3], 1, 1)

    def test_distances_refused(self):
        for distance in (0, 7, -1, 8, -6) + FAR_BEYOND:
            self.check_refused(5, [2, 3], distance, 1)
            self.check_refused(5, [2, 3], 1, distance)
            self.check_refused(5, [2, 3], distance, distance)

    def test_no_width_and_too_many_refused(self):
        self.check_refused(5, [], 1, 1)
        self.check_refused(5, [2, 3, 4, 5], 1, 1)
        self.check_refused(5, [2, 3, 4, 5, 6, 7, 8], 1, 1)
        self.check_refused(5, [2, 3, 4, 2], 1, 1)
        self.check_refused(5, [2, 2, 2, 2], 1, 1)
        self.check_refused(5, [2] * 40, 1, 1)
        self.check_refused(5, list(range(40)), 1, 1)

    def test_width_out_of_range_refused_at_any_place(self):
        for width in (1, 9, 0, -1, -2, 10) + FAR_BEYOND:
            self.check_refused(5, [width], 1, 1)
            for place in range(2):
                widths = [2]
                widths.insert(place, width)
                self.check_refused(5, widths, 1, 1)
            for place in range(3):
                widths = [2, 8]
                widths.insert(place, width)
                self.check_refused(5, widths, 1, 1)

    def test_two_widths_alike_refused_at_any_two_places(self):
        for width in range(2, 9):
            other = 5 if width != 5 else 4
            self.check_refused(5, [width, width], 1, 1)
            self.check_refused(5, [width, width, other], 1, 1)
            self.check_refused(5, [width, other, width], 1, 1)
            self.check_refused(5, [other, width, width], 1, 1)
            self.check_refused(5, [width, width, width], 1, 1)

    def test_several_at_once_refused(self):
        self.check_refused(0, [], 0, 0)
        self.check_refused(13, [1, 1], 7, 7)
        self.check_refused(FAR_OUT, [FAR_OUT], -FAR_OUT, FAR_OUT)

    def test_widths_in_any_order(self):
        for widths in all_widths():
            rising = Plan(12, list(widths), 1, 1)
            for turned in itertools.permutations(widths):
                for kind in (list, tuple):
                    handed = kind(turned)
                    plan = Plan(12, handed, 1, 1)
                    self.check_fields(plan, 12, sorted(widths), 1, 1)
                    self.assertEqual(plan.courses(), rising.courses())
                    self.assertEqual(handed, kind(turned))

    def test_widths_are_read_at_the_call_alone(self):
        for widths in ([2, 3, 4], [4, 2, 3]):
            handed = list(widths)
            plan = Plan(9, handed, 1, 1)
            handed[0] = 8
            handed.append(7)
            self.assertEqual(plan.widths, [2, 3, 4])
            self.assertEqual(plan.courses(), COURSES_OF_NINE)
            self.assertEqual(plan.number([4, 3, 2]), 10)
            with self.assertRaises(NotFilled):
                plan.number([7, 2])


class CoursesTest(unittest.TestCase):
    def test_written_out(self):
        self.assertEqual(plan_of_nine().courses(), COURSES_OF_NINE)
        self.assertEqual(Plan(4, [2, 4], 1, 1).courses(), [[4], [2, 2]])
        self.assertEqual(Plan(5, [3, 2], 1, 1).courses(), [[2, 3], [3, 2]])
        self.assertEqual(Plan(8, [8], 1, 1).courses(), [[8]])
        self.assertEqual(Plan(12, [2], 1, 1).courses(), [[2, 2, 2, 2, 2, 2]])

    def test_none(self):
        for eaves, widths in ((1, [2]), (1, [2, 3, 8]), (3, [2]), (7, [2, 4, 8]), (12, [7, 8]), (12, [5])):
            self.assertEqual(Plan(eaves, widths, 1, 1).courses(), [])

    def test_of_all_measures(self):
        most = 0
        for eaves, widths in all_shapes():
            told = Plan(eaves, widths, 1, 1).courses()
            self.assertEqual(told, courses_by_the_words(eaves, widths))
            self.assertIs(type(told), list)
            self.assertTrue(all(type(row) is list for row in told))
            most = max(most, len(told))
        self.assertEqual(most, 36)

    def test_distances_make_no_difference(self):
        for near, far in all_distances():
            self.assertEqual(plan_of_nine(near, far).courses(), COURSES_OF_NINE)

    def test_each_once(self):
        for eaves, widths in all_shapes():
            told = Plan(eaves, widths, 1, 1).courses()
            self.assertEqual(len({tuple(row) for row in told}), len(told))

    def test_mirrored_is_a_course(self):
        for eaves, widths in all_shapes():
            plan = Plan(eaves, widths, 1, 1)
            told = plan.courses()
            turned = [mirrored_row(row) for row in told]
            self.assertEqual(sorted(turned), sorted(told))
            for row in turned:
                self.assertEqual(plan.row(plan.number(row)), row)

    def test_new_at_each_call(self):
        plan = plan_of_nine()
        told = plan.courses()
        told[0][0] = 99
        told[1].append(7)
        told[2].clear()
        told.pop()
        told.reverse()
        self.assertEqual(plan.courses(), COURSES_OF_NINE)
        self.assertEqual([plan.row(number) for number in range(11)], COURSES_OF_NINE)
        self.assertEqual([plan.number(row) for row in COURSES_OF_NINE], list(range(11)))
        self.assertIs(plan.near_kept(0, 0), False)
        empty = Plan(1, [2], 1, 1)
        empty.courses().append([1])
        self.assertEqual(empty.courses(), [])


class RowTest(unittest.TestCase):
    def test_each_leads_back(self):
        for eaves, widths in all_shapes():
            plan = Plan(eaves, widths, 1, 1)
            for number, row in enumerate(courses_by_the_words(eaves, widths)):
                self.assertIs(type(plan.row(number)), list)
                self.assertEqual(plan.row(number), row)
                self.assertEqual(plan.number(row), number)
                self.assertEqual(plan.number(plan.row(number)), number)

    def test_unknown_course(self):
        for plan, count in ((plan_of_nine(), 11), (Plan(4, [2, 4], 1, 1), 2), (Plan(1, [2], 1, 1), 0)):
            for number in (-1, -2, -count, -count - 1, count, count + 1, 36) + FAR_BEYOND:
                if number in range(count):
                    continue
                with self.subTest(count=count, number=number):
                    with self.assertRaises(UnknownCourse):
                        plan.row(number)

    def test_new_at_each_call(self):
        plan = plan_of_nine()
        for number, row in enumerate(COURSES_OF_NINE):
            told = plan.row(number)
            told[0] = 99
            told.append(5)
            self.assertEqual(plan.row(number), row)
            self.assertEqual(plan.number(row), number)
        self.assertEqual(plan.courses(), COURSES_OF_NINE)


class NumberTest(unittest.TestCase):
    def check_refused(self, plan, row):
        for kind in (list, tuple):
            handed = kind(row)
            with self.subTest(row=handed):
                with self.assertRaises(NotFilled):
                    plan.number(handed)
                self.assertEqual(handed, kind(row))

    def test_lists_and_tuples(self):
        plan = plan_of_nine()
        for number, row in enumerate(COURSES_OF_NINE):
            for kind in (list, tuple):
                handed = kind(row)
                self.assertEqual(plan.number(handed), number)
                self.assertEqual(handed, kind(row))

    def test_not_filled(self):
        plan = plan_of_nine()
        for row in (
            [],
            [9],
            [1, 8],
            [2, 2, 5],
            [5, 4],
            [2, 0, 3, 4],
            [2, 3, 4, 0],
            [-2, 3, 4, 4],
            [FAR_OUT, 2, 3, 4, -FAR_OUT],
            [2],
            [2, 3],
            [2, 2, 2, 2],
            [2, 4, 4],
            [2, 3, 4, 2],
            [FAR_OUT],
            [2] * 40,
            [3] * 40,
            [0] * 40,
            list(range(40)),
        ):
            self.check_refused(plan, row)

    def test_no_course_at_all(self):
        plan = Plan(7, [2, 4, 8], 1, 1)
        for row in ([], [7], [2, 4], [4, 4], [2, 2, 2], [2, 4, 1], [8]):
            self.check_refused(plan, row)

    def test_all_short_rows(self):
        plan = Plan(6, [2, 4, 3], 1, 1)
        known = courses_by_the_words(6, [2, 3, 4])
        for length in range(5):
            for row in itertools.product(range(-1, 7), repeat=length):
                if list(row) in known:
                    self.assertEqual(plan.number(row), known.index(list(row)))
                else:
                    with self.assertRaises(NotFilled):
                        plan.number(row)


class KeptTest(unittest.TestCase):
    def test_written_out(self):
        # The joints 2, 5 and 4, 7 of these two courses are apart by 1 and no more.
        self.assertIs(plan_of_nine(1, 2).near_kept(2, 10), True)
        self.assertIs(plan_of_nine(1, 2).far_kept(2, 10), False)
        self.assertIs(plan_of_nine(2, 1).near_kept(2, 10), False)
        self.assertIs(plan_of_nine(2, 1).far_kept(2, 10), True)
        plan = Plan(6, [2, 4], 2, 3)
        self.assertEqual(plan.courses(), [[2, 4], [2, 2, 2], [4, 2]])
        self.assertIs(plan.near_kept(0, 2), True)
        self.assertIs(plan.near_kept(2, 0), True)
        self.assertIs(plan.far_kept(0, 2), False)
        self.assertIs(plan.far_kept(2, 0), False)
        self.assertIs(plan.near_kept(0, 1), False)
        self.assertIs(plan.near_kept(1, 0), False)

    def test_against_the_differences(self):
        for eaves, widths in ((9, (2, 3, 4)), (8, (2, 4, 6)), (8, (2, 3, 8)), (12, (3, 4, 6)), (5, (2, 3)), (8, (8,))):
            rows = courses_by_the_words(eaves, widths)
            for near, far in all_distances():
                self.check_all_pairs(Plan(eaves, widths, near, far), rows)

    def test_of_all_shapes(self):
        for eaves, widths in all_shapes():
            rows = courses_by_the_words(eaves, widths)
            for near, far in ((1, 2), (3, 1)):
                self.check_all_pairs(Plan(eaves, widths, near, far), rows)

    def check_all_pairs(self, plan, rows):
        near = table_by_the_words(rows, plan.near)
        far = table_by_the_words(rows, plan.far)
        for one, other in itertools.product(range(len(rows)), repeat=2):
            self.assertIs(plan.near_kept(one, other), near[one][other])
            self.assertIs(plan.near_kept(other, one), near[one][other])
            self.assertIs(plan.far_kept(one, other), far[one][other])
            self.assertIs(plan.far_kept(other, one), far[one][other])

    def test_a_course_beside_itself(self):
        for near, far in all_distances():
            plan = Plan(8, [2, 4, 8], near, far)
            # Only the course without a joint is apart from itself.
            self.assertEqual(plan.row(0), [8])
            for number in range(len(plan.courses())):
                self.assertIs(plan.near_kept(number, number), number == 0)
                self.assertIs(plan.far_kept(number, number), number == 0)

    def test_unknown_course(self):
        for plan, count in ((plan_of_nine(1, 2), 11), (Plan(8, [8], 1, 1), 1), (Plan(1, [2], 1, 1), 0)):
            known = list(range(count))
            unknown = [-1, -2, -count - 1, count, count + 1] + list(FAR_BEYOND)
            wrong = list(itertools.product(known, unknown))
            wrong += list(itertools.product(unknown, known))
            wrong += list(itertools.product(unknown, unknown))
            for one, other in wrong:
                with self.subTest(count=count, one=one, other=other):
                    with self.assertRaises(UnknownCourse):
                        plan.near_kept(one, other)
                    with self.assertRaises(UnknownCourse):
                        plan.far_kept(one, other)


class IsRoofTest(unittest.TestCase):
    def check(self, plan, roof, expected):
        for kind in (list, tuple):
            handed = kind(roof)
            self.assertIs(plan.is_roof(handed), expected)
            self.assertEqual(handed, kind(roof))

    def test_no_course_and_one(self):
        self.check(plan_of_nine(6, 6), [], True)
        self.check(Plan(1, [2], 1, 1), [], True)
        for number in range(11):
            self.check(plan_of_nine(6, 6), [number], True)
        self.check(Plan(1, [2], 1, 1), [0], False)

    def test_written_out(self):
        # The courses are [2, 4], [2, 2, 2] and [4, 2], with the joints 2; 2, 4; 4.
        plan = Plan(6, [2, 4], 2, 3)
        self.check(plan, [0, 2], True)
        self.check(plan, [2, 0], True)
        self.check(plan, [0, 1], False)
        self.check(plan, [0, 0], False)
        self.check(plan, [0, 2, 0], False)
        # The course [8] has no joint: whatever lies upon it is apart from it.
        plan = Plan(8, [3, 5, 8], 2, 1)
        self.assertEqual(plan.courses(), [[8], [3, 5], [5, 3]])
        self.check(plan, [0, 0, 0, 0], True)
        self.check(plan, [1, 2], True)
        self.check(plan, [1, 0, 2], True)
        self.check(plan, [1, 0, 1], False)
        self.check(plan, [1, 2, 1], False)
        self.check(plan, [0, 1, 1], False)
        self.check(plan, [1, 0, 0, 1, 2, 0, 0, 2], True)

    def test_two_between_may_be_near(self):
        plan = Plan(8, [3, 5, 8], 6, 6)
        self.check(plan, [1, 0, 0, 1], True)
        self.check(plan, [1, 0, 1], False)
        self.check(plan, [1, 1], False)
        plan = Plan(6, [2, 3, 4], 1, 1)
        self.assertEqual(plan.courses(), [[2, 4], [2, 2, 2], [3, 3], [4, 2]])
        self.check(plan, [0, 2, 3, 0], True)
        self.check(plan, [0, 2, 0], False)

    def test_near_and_far_are_not_taken_for_one_another(self):
        # The joints are 3 and 5, so the two courses are apart by 2 and no more.
        for near, far in all_distances():
            plan = Plan(8, [3, 5, 8], near, far)
            self.check(plan, [1, 2], near <= 2)
            self.check(plan, [1, 0, 2], far <= 2)

    def test_all_short_lists(self):
        for eaves, widths in ((6, (2, 3, 4)), (8, (3, 4, 5)), (8, (3, 5, 8)), (5, (2, 3)), (1, (2,))):
            rows = courses_by_the_words(eaves, widths)
            numbers = range(-1, len(rows) + 1)
            for near, far in all_distances():
                plan = Plan(eaves, widths, near, far)
                near_table = table_by_the_words(rows, near)
                far_table = table_by_the_words(rows, far)
                for length in range(5):
                    for roof in itertools.product(numbers, repeat=length):
                        expected = is_roof_by_the_words(near_table, far_table, roof)
                        self.assertIs(plan.is_roof(roof), expected)

    def test_unknown_number_at_any_place(self):
        plan = Plan(8, [3, 5, 8], 2, 1)
        for number in (-1, -2, -3, -4, 3, 4) + FAR_BEYOND:
            for length in range(6):
                for place in range(length + 1):
                    roof = [0] * length
                    roof.insert(place, number)
                    self.check(plan, roof, False)

    def test_long_lists(self):
        plan = Plan(6, [2, 3, 4], 1, 1)
        long_roof = [0, 2, 3] * 666 + [0, 2]
        self.assertEqual(len(long_roof), 2000)
        self.check(plan, long_roof, True)
        for place in (0, 1, 2, 999, 1000, 1997, 1998, 1999):
            for wrong in (1, -1, 4, FAR_OUT, -FAR_OUT):
                roof = list(long_roof)
                roof[place] = wrong
                self.check(plan, roof, False)
        full = Plan(8, [8], 6, 6)
        for length in range(2001):
            self.assertIs(full.is_roof([0] * length), True)
        self.check(full, [0] * 1999 + [1], False)
        self.check(full, [-1] + [0] * 1999, False)
        self.check(plan, [FAR_OUT] * 2000, False)


class ApartTest(unittest.TestCase):
    def answers(self, plan):
        numbers = range(len(plan.courses()))
        pairs = list(itertools.product(numbers, repeat=2))
        return (
            (plan.eaves, list(plan.widths), plan.near, plan.far),
            plan.courses(),
            [plan.row(number) for number in numbers],
            [plan.near_kept(one, other) for one, other in pairs],
            [plan.far_kept(one, other) for one, other in pairs],
            [plan.is_roof(list(pair)) for pair in pairs],
        )

    def test_two_plans_are_apart(self):
        widths = [2, 3, 4]
        one = Plan(9, widths, 1, 2)
        before = self.answers(one)
        for other in (Plan(9, widths, 1, 2), Plan(12, [8, 4, 2], 6, 6), Plan(1, [5], 3, 3)):
            self.assertIsNot(one.widths, other.widths)
            for told in [other.widths, other.courses()] + other.courses():
                told.append(99)
            self.assertEqual(self.answers(one), before)
        self.assertEqual(self.answers(Plan(9, widths, 1, 2)), before)

    def test_refusals_change_nothing(self):
        plan = plan_of_nine(1, 2)
        before = self.answers(plan)
        for refused in (
            lambda: plan.row(-1),
            lambda: plan.row(11),
            lambda: plan.number([]),
            lambda: plan.number([9]),
            lambda: plan.near_kept(0, 11),
            lambda: plan.far_kept(-1, 0),
            lambda: Plan(13, [2, 3, 4], 1, 2),
        ):
            with self.assertRaises(RoofError):
                refused()
            self.assertEqual(self.answers(plan), before)


if __name__ == "__main__":
    unittest.main()
