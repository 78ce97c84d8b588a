"""Rows, their joints, their order and their mirrors (points 1, 3, 4 and 5)."""

import inspect
import itertools
import unittest

from by_the_words import FAR_OUT, all_marks, all_rows, earlier_by_the_words
from shinglelap import rows
from shinglelap.rows import earlier, fills, joints, mirrored_row, row_of


class InterfaceTest(unittest.TestCase):
    def test_arguments(self):
        told = {
            "joints": ["row"],
            "row_of": ["eaves", "marks"],
            "fills": ["eaves", "widths", "row"],
            "earlier": ["one", "other"],
            "mirrored_row": ["row"],
        }
        for name, arguments in told.items():
            with self.subTest(name=name):
                self.assertEqual(list(inspect.signature(getattr(rows, name)).parameters), arguments)


class JointsTest(unittest.TestCase):
    def check(self, row, expected):
        with self.subTest(row=row):
            for kind in (list, tuple):
                handed = kind(row)
                told = joints(handed)
                self.assertIs(type(told), list)
                self.assertEqual(told, expected)
                self.assertEqual(handed, kind(row))

    def test_none_and_one_number(self):
        self.check([], [])
        for number in (1, 5, 0, -3, FAR_OUT, -FAR_OUT):
            self.check([number], [])

    def test_several(self):
        self.check([3, 4], [3])
        self.check([2, 3, 4], [2, 5])
        self.check([4, 3, 2], [4, 7])
        self.check([2, 2, 2, 2, 2, 2], [2, 4, 6, 8, 10])

    def test_zero_and_negative(self):
        self.check([0, 0, 0], [0, 0])
        self.check([-2, 5, -7, 1], [-2, 3, -4])
        self.check([3, 0, -3, 9], [3, 3, 0])

    def test_far_out(self):
        self.check([FAR_OUT, FAR_OUT, 1], [FAR_OUT, 2 * FAR_OUT])
        self.check([-FAR_OUT, -FAR_OUT, -FAR_OUT], [-FAR_OUT, -2 * FAR_OUT])
        self.check([FAR_OUT, -FAR_OUT, FAR_OUT], [FAR_OUT, 0])
        self.check([FAR_OUT] * 40, [FAR_OUT * count for count in range(1, 40)])

    def test_forty(self):
        self.check([2] * 40, list(range(2, 80, 2)))
        self.check(list(range(1, 41)), [count * (count + 1) // 2 for count in range(1, 40)])

    def test_one_joint_fewer_than_numbers(self):
        for size in range(1, 41):
            self.assertEqual(len(joints([3] * size)), size - 1)

    def test_new_at_each_call(self):
        for row in ([], [4], [2, 3, 4]):
            handed = list(row)
            first = joints(handed)
            expected = list(first)
            first.append(99)
            self.assertEqual(handed, row)
            self.assertEqual(joints(handed), expected)
            self.assertIsNot(joints(handed), joints(handed))

    def test_read_at_the_call_alone(self):
        row = [2, 3, 4]
        told = joints(row)
        row[0] = 8
        row.append(5)
        self.assertEqual(told, [2, 5])


class RowOfTest(unittest.TestCase):
    def test_no_marks(self):
        for eaves in range(1, 13):
            self.assertEqual(row_of(eaves, []), [eaves])
            self.assertEqual(row_of(eaves, ()), [eaves])

    def test_one_mark(self):
        for eaves in range(2, 13):
            for mark in range(1, eaves):
                self.assertEqual(row_of(eaves, [mark]), [mark, eaves - mark])

    def test_all_marks(self):
        for eaves in range(1, 13):
            self.assertEqual(row_of(eaves, list(range(1, eaves))), [1] * eaves)

    def test_several(self):
        self.assertEqual(row_of(9, [2, 5]), [2, 3, 4])
        self.assertEqual(row_of(12, (4, 7, 10)), [4, 3, 3, 2])

    def test_joints_are_the_marks_and_sum_is_the_eaves(self):
        for eaves in range(1, 13):
            for marks in all_marks(eaves):
                for kind in (list, tuple):
                    handed = kind(marks)
                    row = row_of(eaves, handed)
                    self.assertIs(type(row), list)
                    self.assertEqual(joints(row), list(marks))
                    self.assertEqual(sum(row), eaves)
                    self.assertEqual(handed, kind(marks))

    def test_row_from_its_own_joints(self):
        for eaves in range(1, 9):
            for row in all_rows(eaves):
                self.assertEqual(row_of(eaves, joints(row)), row)

    def test_new_at_each_call(self):
        marks = [2, 5]
        first = row_of(9, marks)
        first.append(99)
        self.assertEqual(row_of(9, marks), [2, 3, 4])
        told = row_of(9, marks)
        marks[0] = 1
        marks.append(8)
        self.assertEqual(told, [2, 3, 4])


class FillsTest(unittest.TestCase):
    def check(self, eaves, widths, row, expected):
        with self.subTest(eaves=eaves, widths=widths, row=row):
            for widths_kind, row_kind in itertools.product((list, tuple), repeat=2):
                handed_widths = widths_kind(widths)
                handed_row = row_kind(row)
                self.assertIs(fills(eaves, handed_widths, handed_row), expected)
                self.assertEqual(handed_widths, widths_kind(widths))
                self.assertEqual(handed_row, row_kind(row))

    def test_rows_that_fill(self):
        self.check(4, [4], [4], True)
        self.check(4, [2], [2, 2], True)
        self.check(9, [2, 3, 4], [2, 3, 4], True)
        self.check(9, [4, 2, 3], [3, 4, 2], True)
        self.check(12, [8, 4, 2], [2, 2, 8], True)
        self.check(12, [2], [2] * 6, True)

    def test_empty_row(self):
        # Eaves of 0 are out of a plan's range, but a row of no number fills nothing, whatever its sum.
        for eaves in range(13):
            self.check(eaves, [2, 3], [], False)

    def test_a_number_that_is_no_width(self):
        self.check(9, [2, 3], [2, 3, 4], False)
        self.check(9, [2, 3], [4, 3, 2], False)
        self.check(9, [2, 3], [3, 5, 1], False)
        self.check(5, [2, 3], [5], False)
        self.check(5, [2, 3], [2, 0, 3], False)
        self.check(5, [2, 3], [2, 3, 0], False)
        self.check(5, [2, 3], [2, 3, 2, -2], False)
        self.check(5, [2, 3], [-3, 3, 3, 2], False)
        self.check(4, [2], [FAR_OUT, -FAR_OUT, 2, 2], False)
        self.check(12, [8, 4], [8, 8, -4], False)

    def test_sum_too_small_or_too_great(self):
        self.check(9, [2, 3, 4], [2, 3], False)
        self.check(9, [2, 3, 4], [2, 3, 3], False)
        self.check(9, [2, 3, 4], [2, 4, 4], False)
        self.check(9, [2, 3, 4], [2, 3, 4, 2], False)
        self.check(1, [2], [2], False)
        self.check(12, [2], [2] * 40, False)

    def test_against_the_words(self):
        for widths in ([2], [3, 2], [4, 2, 5]):
            for eaves in range(1, 9):
                for length in range(5):
                    for row in itertools.product((-2, 0, 1, 2, 3, 4, 5), repeat=length):
                        expected = length > 0 and sum(row) == eaves and set(row) <= set(widths)
                        self.assertIs(fills(eaves, widths, row), expected)


class EarlierTest(unittest.TestCase):
    def check(self, one, other, expected):
        with self.subTest(one=one, other=other):
            for one_kind, other_kind in itertools.product((list, tuple), repeat=2):
                handed_one = one_kind(one)
                handed_other = other_kind(other)
                self.assertIs(earlier(handed_one, handed_other), expected)
                self.assertEqual(handed_one, one_kind(one))
                self.assertEqual(handed_other, other_kind(other))

    def check_both_ways(self, first, second):
        self.check(first, second, True)
        self.check(second, first, False)

    def test_first_differing_joint_early(self):
        self.check_both_ways([2, 7], [3, 6])
        self.check_both_ways([2, 3, 4], [3, 2, 4])
        self.check_both_ways([2, 900, 1], [3, 1, 1])
        self.check_both_ways([1, 1, 1, 1], [2, 2])
        self.check_both_ways([1, 5], [2, 1, 1, 1])

    def test_first_differing_joint_late(self):
        self.check_both_ways([2, 2, 2, 3, 4], [2, 2, 2, 4, 3])
        self.check_both_ways([3] * 38 + [1, 9], [3] * 38 + [2, 9])

    def test_one_the_beginning_of_the_other(self):
        self.check_both_ways([2, 3], [2, 3, 4])
        self.check_both_ways([2, 900], [2, 1, 1])
        self.check_both_ways([12], [2, 10])
        self.check_both_ways([1000], [1, 1])
        self.check_both_ways([], [1, 1])

    def test_same_joints(self):
        for one, other in (([2, 3, 4], [2, 3, 4]), ([2, 3, 4], [2, 3, 9]), ([5, 1], [5, 1000])):
            self.check(one, other, False)
            self.check(other, one, False)

    def test_one_number_and_none(self):
        for one, other in itertools.product(([], [1], [7], [1000]), repeat=2):
            self.check(one, other, False)

    def test_against_the_words(self):
        rows_of_all_sizes = [row for eaves in range(7) for row in all_rows(eaves)]
        for one, other in itertools.product(rows_of_all_sizes, repeat=2):
            self.assertIs(earlier(one, other), earlier_by_the_words(one, other))

    def test_one_object_as_both(self):
        row = [2, 3, 4]
        self.assertIs(earlier(row, row), False)


class MirroredRowTest(unittest.TestCase):
    ROWS = (
        ([], []),
        ([7], [7]),
        ([2, 3], [3, 2]),
        ([2, 3, 4], [4, 3, 2]),
        ([3, 3, 2], [2, 3, 3]),
        ([0, -5, FAR_OUT, -FAR_OUT], [-FAR_OUT, FAR_OUT, -5, 0]),
        (list(range(40)), list(range(39, -1, -1))),
    )

    def test_from_right_to_left(self):
        for row, expected in self.ROWS:
            for kind in (list, tuple):
                with self.subTest(row=row, kind=kind.__name__):
                    handed = kind(row)
                    told = mirrored_row(handed)
                    self.assertIs(type(told), list)
                    self.assertEqual(told, expected)
                    self.assertEqual(handed, kind(row))

    def test_new_at_each_call(self):
        for row, expected in self.ROWS:
            with self.subTest(row=row):
                handed = list(row)
                first = mirrored_row(handed)
                first.append(99)
                self.assertEqual(handed, row)
                self.assertEqual(mirrored_row(handed), expected)
                self.assertIsNot(mirrored_row(handed), mirrored_row(handed))

    def test_read_at_the_call_alone(self):
        row = [2, 3, 4]
        told = mirrored_row(row)
        row[0] = 8
        row.append(5)
        self.assertEqual(told, [4, 3, 2])

    def test_mirrored_twice(self):
        for row, _ in self.ROWS:
            self.assertEqual(mirrored_row(mirrored_row(row)), row)

    def test_a_row_that_fills_fills_mirrored(self):
        for eaves in range(1, 10):
            for row in all_rows(eaves):
                self.assertIs(fills(eaves, [2, 3, 5], mirrored_row(row)), fills(eaves, [2, 3, 5], row))


if __name__ == "__main__":
    unittest.main()
