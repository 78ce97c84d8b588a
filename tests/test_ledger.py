"""Roofs counted and numbered (points 1, 7, 9 and 10)."""

import inspect
import itertools
import random
import unittest

from by_the_words import (
    FAR_OUT,
    all_distances,
    all_shapes,
    begun_by_pairs,
    courses_by_the_words,
    ended_by_pairs,
    is_roof_by_the_words,
    roofs_by_height,
    table_by_the_words,
    tables_of,
)
from refusals import RefusalCase
from shinglelap.ledger import Ledger
from shinglelap.plan import Plan

NO_COURSE = (1, [2], 1, 1)
ONE_COURSE = (8, [8], 6, 6)
MANY = (8, [2, 3, 8], 1, 1)
# Some endless, some with a greatest height from 0 to 4, some with a near and a far distance that differ.
MEASURES = (
    NO_COURSE,
    (7, [2, 4, 8], 2, 3),
    (4, [2], 1, 1),
    ONE_COURSE,
    (5, [2, 3], 1, 1),
    (5, [2, 3], 2, 1),
    (6, [2, 3, 4], 1, 1),
    (6, [2, 4], 2, 3),
    (8, [3, 4, 5], 1, 2),
    (8, [3, 4, 5], 1, 1),
    (8, [3, 5, 8], 2, 1),
    (8, [3, 5, 8], 2, 3),
    MANY,
    (8, [2, 4, 8], 2, 3),
    (8, [2, 4, 8], 3, 2),
    (9, [2, 4, 5], 1, 2),
    (10, [2, 3, 5], 1, 2),
    (12, [2, 3, 4], 1, 1),
    (12, [4, 6, 8], 2, 1),
)
BAD_HEIGHTS = (-1, 21, -2, 22, -20, -21, 40, 1000, FAR_OUT, -FAR_OUT)


def ledger_of(measures):
    return Ledger(Plan(*measures))


class InterfaceTest(RefusalCase):
    def test_arguments(self):
        told = {
            "how_many": ["self", "height"],
            "begun_by": ["self", "height"],
            "ended_by": ["self", "height"],
            "roof_at": ["self", "height", "number"],
            "number_of": ["self", "roof"],
        }
        for name, arguments in told.items():
            with self.subTest(name=name):
                self.assertEqual(list(inspect.signature(getattr(Ledger, name)).parameters), arguments)
        self.assertEqual(list(inspect.signature(Ledger).parameters), ["plan"])

    def test_by_name(self):
        ledger = Ledger(plan=Plan(5, [2, 3], 1, 1))
        self.assertEqual(ledger.how_many(height=2), 2)
        self.assertEqual(ledger.begun_by(height=2), [1, 1])
        self.assertEqual(ledger.ended_by(height=2), [1, 1])
        self.assertEqual(ledger.roof_at(height=2, number=1), [1, 0])
        self.assertEqual(ledger.number_of(roof=[1, 0]), 1)

    def test_kinds(self):
        ledger = ledger_of(MANY)
        for height in (0, 1, 2, 20):
            self.assertIs(type(ledger.how_many(height)), int)
            for told in (ledger.begun_by(height), ledger.ended_by(height), ledger.roof_at(height, 0)):
                self.assertIs(type(told), list)
                for number in told:
                    self.assertIs(type(number), int)
            self.assertIs(type(ledger.number_of(ledger.roof_at(height, 0))), int)
            self.assertIs(type(ledger.number_of(tuple(ledger.roof_at(height, 0)))), int)


class CountedTest(RefusalCase):
    def check(self, ledger, height, roofs, courses):
        """Holds what is told of a height against the list of all its roofs."""
        begun = [sum(roof[:1] == [number] for roof in roofs) for number in range(courses)]
        ended = [sum(roof[-1:] == [number] for roof in roofs) for number in range(courses)]
        self.assertEqual(ledger.how_many(height), len(roofs))
        self.assertEqual(ledger.begun_by(height), begun)
        self.assertEqual(ledger.ended_by(height), ended)

    def test_written_out(self):
        # The joints are 3, 4 and 5: at the far distance of 2 only 3 and 5 are apart.
        ledger = ledger_of((8, [3, 4, 5], 1, 2))
        self.assertEqual([ledger.how_many(height) for height in range(6)], [1, 3, 6, 2, 0, 0])
        self.assertEqual(ledger.begun_by(2), [2, 2, 2])
        self.assertEqual(ledger.begun_by(3), [1, 0, 1])
        self.assertEqual(ledger.ended_by(3), [1, 0, 1])
        # The joints are 2, 4; 2, 7; 4; 5; 5, 7: the roofs are written out in test_heights.py.
        ledger = ledger_of((9, [2, 4, 5], 1, 2))
        self.assertEqual([ledger.how_many(height) for height in range(6)], [1, 5, 12, 4, 2, 0])
        self.assertEqual(ledger.begun_by(3), [0, 2, 1, 1, 0])
        self.assertEqual(ledger.ended_by(3), [0, 2, 1, 1, 0])
        self.assertEqual(ledger.begun_by(4), [0, 2, 0, 0, 0])
        self.assertEqual(ledger.ended_by(4), [0, 2, 0, 0, 0])

    def test_against_all_roofs_of_all_plans(self):
        for eaves, widths in all_shapes():
            rows = courses_by_the_words(eaves, widths)
            tables = [table_by_the_words(rows, least) for least in range(7)]
            for near, far in all_distances():
                ledger = ledger_of((eaves, widths, near, far))
                for height, roofs in enumerate(roofs_by_height(tables[near], tables[far], 4)):
                    self.check(ledger, height, roofs, len(rows))

    def test_against_pairs_for_every_height(self):
        drawn = random.Random(9).sample(list(itertools.product(all_shapes(), all_distances())), 400)
        chosen = MEASURES + tuple(shape + distances for shape, distances in drawn)
        for measures in chosen:
            ledger = ledger_of(measures)
            near, far = tables_of(measures)
            ended = ended_by_pairs(near, far, 20)
            begun = begun_by_pairs(near, far, 20)
            for height in range(1, 21):
                self.assertEqual(ledger.how_many(height), sum(ended[height - 1]))
                self.assertEqual(ledger.begun_by(height), begun[height - 1])
                self.assertEqual(ledger.ended_by(height), ended[height - 1])

    def test_tens_of_millions(self):
        for measures, many in (
            (MANY, 60267345),
            ((8, [2, 4, 8], 2, 2), 37887489),
            ((8, [2, 4, 8], 2, 3), 17231899),
        ):
            ledger = ledger_of(measures)
            self.assertEqual(ledger.how_many(20), many)
            self.assertEqual(sum(ledger.begun_by(20)), many)
            self.assertEqual(sum(ledger.ended_by(20)), many)

    def test_height_0(self):
        for measures in MEASURES:
            ledger = ledger_of(measures)
            zeros = [0] * len(Plan(*measures).courses())
            self.assertEqual(ledger.how_many(0), 1)
            self.assertEqual(ledger.begun_by(0), zeros)
            self.assertEqual(ledger.ended_by(0), zeros)

    def test_height_1(self):
        for measures in MEASURES:
            ledger = ledger_of(measures)
            count = len(Plan(*measures).courses())
            self.assertEqual(ledger.how_many(1), count)
            self.assertEqual(ledger.begun_by(1), [1] * count)
            self.assertEqual(ledger.ended_by(1), [1] * count)

    def test_without_a_course(self):
        for eaves, widths in ((1, [2]), (3, [2]), (7, [2, 4, 8]), (12, [7, 8])):
            for near, far in all_distances():
                ledger = ledger_of((eaves, widths, near, far))
                for height in range(21):
                    self.assertEqual(ledger.how_many(height), int(height == 0))
                    self.assertEqual(ledger.begun_by(height), [])
                    self.assertEqual(ledger.ended_by(height), [])

    def test_one_course_without_a_joint(self):
        ledger = ledger_of(ONE_COURSE)
        for height in range(1, 21):
            self.assertEqual(ledger.how_many(height), 1)
            self.assertEqual(ledger.begun_by(height), [1])
            self.assertEqual(ledger.ended_by(height), [1])

    def test_beyond_the_greatest_height(self):
        for measures, greatest in (
            ((4, [2], 1, 1), 1),
            ((5, [2, 3], 2, 1), 1),
            ((5, [2, 3], 1, 1), 2),
            ((8, [3, 4, 5], 1, 2), 3),
            ((6, [2, 3, 4], 1, 2), 3),
            ((9, [2, 4, 5], 1, 2), 4),
            ((12, [3, 4, 6], 1, 2), 4),
        ):
            ledger = ledger_of(measures)
            zeros = [0] * len(Plan(*measures).courses())
            for height in range(1, 21):
                with self.subTest(measures=measures, height=height):
                    self.assertIs(ledger.how_many(height) > 0, height <= greatest)
                    if height > greatest:
                        self.assertEqual(ledger.how_many(height), 0)
                        self.assertEqual(ledger.begun_by(height), zeros)
                        self.assertEqual(ledger.ended_by(height), zeros)

    def test_as_many_begin_as_end(self):
        for measures in MEASURES:
            ledger = ledger_of(measures)
            for height in range(1, 21):
                self.assertEqual(sum(ledger.begun_by(height)), ledger.how_many(height))
                self.assertEqual(sum(ledger.ended_by(height)), ledger.how_many(height))

    def test_height_out_of_range(self):
        for measures in MEASURES:
            ledger = ledger_of(measures)
            for height in BAD_HEIGHTS:
                self.check_refused("BadHeight", ledger.how_many, height)
                self.check_refused("BadHeight", ledger.begun_by, height)
                self.check_refused("BadHeight", ledger.ended_by, height)

    def test_in_any_order_and_again(self):
        for measures in MEASURES:
            whole = ledger_of(measures)
            told = {height: self.told(whole, height) for height in range(21)}
            for seed in range(3):
                ledger = ledger_of(measures)
                heights = list(range(21)) * 2
                random.Random(seed).shuffle(heights)
                for height in heights:
                    self.assertEqual(self.told(ledger, height), told[height])

    def told(self, ledger, height):
        return ledger.ended_by(height), ledger.how_many(height), ledger.begun_by(height)

    def test_a_list_told_and_changed(self):
        for measures in MEASURES:
            ledger = ledger_of(measures)
            for height in (0, 1, 2, 3, 4, 19, 20):
                before = self.told(ledger, height)
                for changed in (ledger.begun_by(height), ledger.ended_by(height)):
                    changed[:] = [99 for number in changed]
                    changed.append(5)
                    self.assertEqual(self.told(ledger, height), before)
                self.assertIsNot(ledger.begun_by(height), ledger.begun_by(height))
                self.assertIsNot(ledger.ended_by(height), ledger.ended_by(height))
                self.assertIsNot(ledger.begun_by(height), ledger.ended_by(height))
            fresh = ledger_of(measures)
            for height in range(21):
                self.assertEqual(self.told(ledger, height), self.told(fresh, height))


class NumberedTest(RefusalCase):
    def check_way_round(self, ledger, roof, number):
        self.assertEqual(ledger.roof_at(len(roof), number), roof)
        for kind in (list, tuple):
            handed = kind(roof)
            self.assertEqual(ledger.number_of(handed), number)
            self.assertEqual(handed, kind(roof))

    def test_written_out(self):
        ledger = ledger_of((8, [3, 4, 5], 1, 2))
        roofs = [[0, 1], [0, 2], [1, 0], [1, 2], [2, 0], [2, 1]]
        for number, roof in enumerate(roofs):
            self.check_way_round(ledger, roof, number)
        self.check_way_round(ledger, [0, 1, 2], 0)
        self.check_way_round(ledger, [2, 1, 0], 1)

    def test_height_0(self):
        for measures in MEASURES:
            self.check_way_round(ledger_of(measures), [], 0)

    def test_height_1(self):
        for measures in MEASURES:
            ledger = ledger_of(measures)
            for number in range(len(Plan(*measures).courses())):
                self.check_way_round(ledger, [number], number)

    def test_all_of_small_heights(self):
        for measures in MEASURES:
            ledger = ledger_of(measures)
            for roofs in roofs_by_height(*tables_of(measures), 4):
                self.assertEqual(roofs, sorted(roofs))
                for number, roof in enumerate(roofs):
                    self.check_way_round(ledger, roof, number)

    def test_all_of_greater_heights_where_there_are_few(self):
        measures = (6, [2, 3, 4], 1, 1)
        ledger = ledger_of(measures)
        for roofs in roofs_by_height(*tables_of(measures), 20):
            for number, roof in enumerate(roofs):
                self.check_way_round(ledger, roof, number)

    def test_first_and_last_and_drawn(self):
        draw = random.Random(10)
        for measures in MEASURES:
            ledger = ledger_of(measures)
            near, far = tables_of(measures)
            for height in range(21):
                many = ledger.how_many(height)
                if many == 0:
                    continue
                numbers = sorted({0, many - 1, many // 2} | {draw.randrange(many) for time in range(8)})
                roofs = [ledger.roof_at(height, number) for number in numbers]
                for number, roof in zip(numbers, roofs):
                    self.assertEqual(len(roof), height)
                    self.assertTrue(is_roof_by_the_words(near, far, roof))
                    self.check_way_round(ledger, roof, number)
                for lesser, greater in zip(roofs, roofs[1:]):
                    self.check_earlier(lesser, greater)

    def check_earlier(self, lesser, greater):
        """By the first place where they differ, course by course."""
        differing = [(one, other) for one, other in zip(lesser, greater) if one != other]
        self.assertLess(*differing[0])

    def test_neighbours_in_the_order(self):
        draw = random.Random(11)
        for measures in (MANY, (8, [2, 4, 8], 2, 3), (12, [2, 3, 4], 1, 1)):
            ledger = ledger_of(measures)
            for height in (5, 12, 19, 20):
                for time in range(20):
                    number = draw.randrange(ledger.how_many(height) - 1)
                    self.check_earlier(ledger.roof_at(height, number), ledger.roof_at(height, number + 1))

    def test_drawn_roofs_lead_back(self):
        draw = random.Random(12)
        for measures in (MANY, (8, [2, 4, 8], 2, 3), (8, [3, 5, 8], 2, 1), (12, [2, 3, 4], 1, 1)):
            plan = Plan(*measures)
            ledger = Ledger(plan)
            for time in range(60):
                roof = self.drawn_roof(plan, draw, draw.randrange(21))
                number = ledger.number_of(roof)
                self.assertTrue(0 <= number < ledger.how_many(len(roof)))
                self.assertEqual(ledger.roof_at(len(roof), number), roof)

    def drawn_roof(self, plan, draw, most):
        roof = []
        numbers = range(len(plan.courses()))
        while len(roof) < most:
            upon = [number for number in numbers if plan.is_roof(roof[-2:] + [number])]
            if not upon:
                break
            roof.append(draw.choice(upon))
        return roof

    def test_no_roof(self):
        for measures in MEASURES:
            ledger = ledger_of(measures)
            for height in range(21):
                many = ledger.how_many(height)
                for number in (-1, many, -2, many + 1, -many - 1, 10 ** 9, -(10 ** 9), FAR_OUT, -FAR_OUT):
                    self.check_refused("NoRoof", ledger.roof_at, height, number)
                if many:
                    self.check_refused("NoRoof", ledger.roof_at, height, -many - 2)
                    ledger.roof_at(height, many - 1)

    def test_bad_height_ahead_of_no_roof(self):
        for measures in (NO_COURSE, MANY, (5, [2, 3], 1, 1)):
            ledger = ledger_of(measures)
            for height in BAD_HEIGHTS:
                for number in (0, 1, -1, FAR_OUT, -FAR_OUT):
                    self.check_refused("BadHeight", ledger.roof_at, height, number)

    def test_list_too_long(self):
        for measures in (ONE_COURSE, MANY, NO_COURSE, (8, [3, 4, 5], 1, 2)):
            ledger = ledger_of(measures)
            for length in (21, 22, 40, 41, 2000):
                for roof in ([0] * length, [-1] * length, [FAR_OUT] * length, [0, 1] * length, [0] * length + [99]):
                    for kind in (list, tuple):
                        handed = kind(roof)
                        self.check_refused("BadHeight", ledger.number_of, handed)
                        self.assertEqual(handed, kind(roof))

    def test_twenty_is_not_too_long(self):
        self.assertEqual(ledger_of(ONE_COURSE).number_of([0] * 20), 0)
        self.assertEqual(ledger_of(MANY).number_of([0] * 20), 0)
        for roof in ([1] * 20, [0] * 19 + [1], [-1] + [0] * 19):
            self.check_refused("NotRoof", ledger_of(ONE_COURSE).number_of, roof)

    def test_not_roof(self):
        # The courses are [8], [3, 5] and [5, 3], with no joint, the joint 3 and the joint 5.
        near_only = ledger_of((8, [3, 5, 8], 3, 1))
        far_only = ledger_of((8, [3, 5, 8], 1, 3))
        self.assertEqual(near_only.roof_at(3, near_only.number_of([1, 0, 2])), [1, 0, 2])
        self.assertEqual(far_only.roof_at(2, far_only.number_of([1, 2])), [1, 2])
        for kind in (list, tuple):
            for roof in ([1, 2], [1, 1], [0, 1, 2], [0, 0, 2, 1], [1, 0, 1]):
                handed = kind(roof)
                self.check_refused("NotRoof", near_only.number_of, handed)
                self.assertEqual(handed, kind(roof))
            for roof in ([1, 0, 2], [2, 0, 1], [1, 0, 1], [0, 0, 1, 0, 2], [1, 1]):
                self.check_refused("NotRoof", far_only.number_of, kind(roof))

    def test_number_that_no_course_has(self):
        for measures in MEASURES:
            ledger = ledger_of(measures)
            count = len(Plan(*measures).courses())
            for number in (-1, -2, -count - 1, count, count + 1, FAR_OUT, -FAR_OUT):
                self.check_refused("NotRoof", ledger.number_of, [number])
                self.check_refused("NotRoof", ledger.number_of, [number] * 20)
        ledger = ledger_of(MANY)
        for number in (-1, -5, 5, 6, FAR_OUT):
            for place in range(20):
                roof = [0] * 20
                roof[place] = number
                self.check_refused("NotRoof", ledger.number_of, roof)

    def test_all_short_lists(self):
        for measures in ((6, [2, 3, 4], 1, 1), (8, [3, 5, 8], 2, 3), (5, [2, 3], 1, 1), NO_COURSE):
            ledger = ledger_of(measures)
            near, far = tables_of(measures)
            roofs = roofs_by_height(near, far, 4)
            for length in range(5):
                for handed in itertools.product(range(-1, len(near) + 1), repeat=length):
                    if list(handed) in roofs[length]:
                        self.assertEqual(ledger.number_of(handed), roofs[length].index(list(handed)))
                    else:
                        self.check_refused("NotRoof", ledger.number_of, handed)

    def test_a_roof_told_and_changed(self):
        for measures in (ONE_COURSE, MANY, (12, [2, 3, 4], 1, 1)):
            ledger = ledger_of(measures)
            for height in (0, 1, 2, 20):
                last = ledger.how_many(height) - 1
                told = ledger.roof_at(height, last)
                before = list(told)
                told.append(7)
                told[0] = 99
                self.assertEqual(ledger.roof_at(height, last), before)
                self.assertEqual(ledger.number_of(before), last)

    def test_a_roof_is_read_at_the_call_alone(self):
        ledger = ledger_of(MANY)
        handed = [0, 0, 1]
        number = ledger.number_of(handed)
        handed.append(0)
        handed[0] = 3
        self.assertEqual(ledger.number_of([0, 0, 1]), number)
        self.assertEqual(ledger.roof_at(3, number), [0, 0, 1])


class ApartTest(RefusalCase):
    def answers(self, ledger):
        return [
            (ledger.how_many(height), ledger.begun_by(height), ledger.ended_by(height)) for height in range(21)
        ] + [ledger.roof_at(20, number) for number in (0, ledger.how_many(20) // 3) if ledger.how_many(20)]

    def test_two_ledgers_are_apart(self):
        plan = Plan(*MANY)
        one = Ledger(plan)
        before = self.answers(one)
        for other in (Ledger(plan), Ledger(Plan(*MANY)), ledger_of((12, [2, 3, 4], 1, 1)), ledger_of(NO_COURSE)):
            for height in range(21):
                for told in (other.begun_by(height), other.ended_by(height)):
                    told.append(99)
            self.answers(other)
            self.assertEqual(self.answers(one), before)
        self.assertEqual(self.answers(Ledger(plan)), before)

    def test_refusals_change_nothing(self):
        ledger = ledger_of((9, [2, 4, 5], 1, 2))
        before = self.answers(ledger)
        for name, deed, handed in (
            ("BadHeight", ledger.how_many, (21,)),
            ("BadHeight", ledger.begun_by, (-1,)),
            ("BadHeight", ledger.ended_by, (21,)),
            ("NoRoof", ledger.roof_at, (2, 12)),
            ("BadHeight", ledger.roof_at, (21, 0)),
            ("NotRoof", ledger.number_of, ([0, 0],)),
            ("BadHeight", ledger.number_of, ([0] * 21,)),
        ):
            self.check_refused(name, deed, *handed)
            self.assertEqual(self.answers(ledger), before)

    def test_the_plan_stays_as_it_is(self):
        plan = Plan(*MANY)
        courses = plan.courses()
        self.answers(Ledger(plan))
        self.assertEqual(plan.courses(), courses)
        self.assertEqual((plan.eaves, plan.widths, plan.near, plan.far), MANY)


if __name__ == "__main__":
    unittest.main()
