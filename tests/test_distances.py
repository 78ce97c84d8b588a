"""Gaps and clashes of joints (points 1 and 6)."""

import inspect
import itertools
import unittest

from shinglelap import distances
from shinglelap.distances import apart, clashes, gap


def rising_lists(greatest):
    places = range(1, greatest + 1)
    return [list(marks) for size in range(greatest + 1) for marks in itertools.combinations(places, size)]


def distance_by_the_words(one, other):
    return max(one, other) - min(one, other)


class InterfaceTest(unittest.TestCase):
    def test_arguments(self):
        told = {
            "gap": ["one", "other"],
            "apart": ["one", "other", "least"],
            "clashes": ["one", "other", "least"],
        }
        for name, arguments in told.items():
            with self.subTest(name=name):
                self.assertEqual(list(inspect.signature(getattr(distances, name)).parameters), arguments)


class GapTest(unittest.TestCase):
    def test_none_where_one_is_empty(self):
        self.assertIsNone(gap([], []))
        self.assertIsNone(gap([], [3]))
        self.assertIsNone(gap([3], []))
        self.assertIsNone(gap((), (1, 2, 3)))
        self.assertIsNone(gap((1, 2, 3), ()))

    def test_equal_joints(self):
        told = gap([2, 5], [3, 5])
        self.assertEqual(told, 0)
        self.assertIsNotNone(told)
        self.assertIs(type(told), int)
        self.assertEqual(gap([1000], [1000]), 0)

    def test_either_may_be_the_greater(self):
        self.assertEqual(gap([2], [9]), 7)
        self.assertEqual(gap([9], [2]), 7)
        self.assertEqual(gap([1], [1000]), 999)
        self.assertEqual(gap([1000], [1]), 999)

    def test_the_least_of_all(self):
        self.assertEqual(gap([1, 20], [8, 22]), 2)
        self.assertEqual(gap([1, 20, 40], [5, 30]), 4)
        self.assertEqual(gap([10, 20, 31], [1, 15, 32]), 1)
        self.assertEqual(gap(list(range(1, 41)), list(range(100, 140))), 60)


class ApartTest(unittest.TestCase):
    def test_either_empty_or_both(self):
        for least in (1, 6, 1000):
            for one, other in (([], []), ([], [4]), ([4], []), ((), (1, 2)), ((1, 2), ())):
                self.assertIs(apart(one, other, least), True)

    def test_equal_to_the_least_is_allowed_and_one_less_is_not(self):
        for least in (1, 2, 3, 6, 999):
            self.assertIs(apart([1], [1 + least], least), True)
            self.assertIs(apart([1 + least], [1], least), True)
            self.assertIs(apart([1], [least], least), False)
            self.assertIs(apart([least], [1], least), False)

    def test_equal_joints_are_never_apart(self):
        for least in (1, 2, 1000):
            self.assertIs(apart([5], [5], least), False)
            self.assertIs(apart([2, 5, 9], [5, 30], least), False)

    def test_one_near_pair_among_many(self):
        self.assertIs(apart([2, 10, 20], [5, 15, 22], 3), False)
        self.assertIs(apart([2, 10, 20], [5, 15, 23], 3), True)
        self.assertIs(apart([9], [2, 7], 3), False)
        self.assertIs(apart([9], [7, 20], 3), False)


class ClashesTest(unittest.TestCase):
    def test_either_empty_or_both(self):
        for one, other in (([], []), ([], [4]), ([4], []), ((), ()), ((), (4,)), ((4,), ())):
            told = clashes(one, other, 1000)
            self.assertIs(type(told), list)
            self.assertEqual(told, [])

    def test_equal_to_the_least_is_allowed_and_one_less_is_not(self):
        self.assertEqual(clashes([4], [7], 3), [])
        self.assertEqual(clashes([7], [4], 3), [])
        self.assertEqual(clashes([4], [6], 3), [(4, 6)])
        self.assertEqual(clashes([6], [4], 3), [(6, 4)])
        self.assertEqual(clashes([4], [4], 1), [(4, 4)])
        self.assertEqual(clashes([4], [5], 1), [])

    def test_all_in_order(self):
        self.assertEqual(
            clashes([4, 6], [3, 5, 7], 2),
            [(4, 3), (4, 5), (6, 5), (6, 7)],
        )
        self.assertEqual(
            clashes([2, 5, 9], [2, 4, 8], 1000),
            [(2, 2), (2, 4), (2, 8), (5, 2), (5, 4), (5, 8), (9, 2), (9, 4), (9, 8)],
        )

    def test_the_first_stands_first(self):
        self.assertEqual(clashes([10], [9, 11], 2), [(10, 9), (10, 11)])
        self.assertEqual(clashes([9, 11], [10], 2), [(9, 10), (11, 10)])

    def test_forty_and_forty(self):
        many = list(range(1, 41))
        self.assertEqual(clashes(many, many, 1), [(joint, joint) for joint in many])
        self.assertEqual(clashes(many, many, 1000), list(itertools.product(many, many)))

    def test_each_a_tuple_of_two(self):
        for clash in clashes([4, 6], [3, 5, 7], 2):
            self.assertIs(type(clash), tuple)
            self.assertEqual(len(clash), 2)

    def test_new_at_each_call(self):
        for one, other, expected in (([4], [5], [(4, 5)]), ([4], [9], []), ([], [], [])):
            first = clashes(one, other, 2)
            first.append((0, 0))
            self.assertEqual(clashes(one, other, 2), expected)
            self.assertIsNot(clashes(one, other, 2), clashes(one, other, 2))

    def test_read_at_the_call_alone(self):
        one = [4, 6]
        other = [5]
        told = clashes(one, other, 2)
        one.append(7)
        other[0] = 20
        self.assertEqual(told, [(4, 5), (6, 5)])


class AllTest(unittest.TestCase):
    def test_against_the_words(self):
        for one, other in itertools.product(rising_lists(5), repeat=2):
            pairs = sorted(itertools.product(one, other))
            lengths = [distance_by_the_words(*pair) for pair in pairs]
            self.assertEqual(gap(one, other), min(lengths) if lengths else None)
            for least in range(1, 7):
                near = [pair for pair in pairs if distance_by_the_words(*pair) < least]
                self.assertEqual(clashes(one, other, least), near)
                self.assertIs(apart(one, other, least), near == [])

    def test_order_of_the_two_makes_no_difference(self):
        for one, other in itertools.product(rising_lists(5), repeat=2):
            self.assertEqual(gap(one, other), gap(other, one))
            for least in (1, 2, 4):
                self.assertIs(apart(one, other, least), apart(other, one, least))
                turned = sorted((second, first) for first, second in clashes(other, one, least))
                self.assertEqual(clashes(one, other, least), turned)

    def test_lists_and_tuples_stay_as_they_are(self):
        one = [2, 5, 9]
        other = [3, 9, 12]
        for one_kind, other_kind in itertools.product((list, tuple), repeat=2):
            handed_one = one_kind(one)
            handed_other = other_kind(other)
            self.assertEqual(gap(handed_one, handed_other), 0)
            self.assertIs(apart(handed_one, handed_other, 2), False)
            self.assertEqual(clashes(handed_one, handed_other, 2), [(2, 3), (9, 9)])
            self.assertEqual(handed_one, one_kind(one))
            self.assertEqual(handed_other, other_kind(other))


if __name__ == "__main__":
    unittest.main()
