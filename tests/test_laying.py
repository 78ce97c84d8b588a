"""Laying and taking off (points 1, 3, 6, 7, 11 and 13 to 17)."""

import inspect
import itertools
import random
import unittest

from by_the_words import FAR_OUT, all_distances, courses_by_the_words, is_roof_by_the_words, tables_of
from pile import Pile
from refusals import RefusalCase, outcome
from shinglelap.laying import Site
from shinglelap.onward import way_on
from shinglelap.plan import Plan

# The one course has no joint, so nothing is ever too near.
PLAIN = (8, [8], 6, 6)
# The courses are [8], [3, 5] and [5, 3], with no joint, the joint 3 and the joint 5.
THREE = (8, [3, 5, 8], 2, 1)
NO_COURSE = (7, [2, 4, 8], 1, 1)
# The courses are [2, 2, 5], [2, 5, 2], [4, 5], [5, 4] and [5, 2, 2].
NINE = (9, [2, 4, 5], 1, 2)
UNFILLED = (
    [],
    [7],
    [9],
    [16],
    [0],
    [-8],
    [4, 4],
    [3, 3],
    [3],
    [5],
    [3, 5, 8],
    [3, 5, 0],
    [0, 8],
    [8, 0],
    [8, -8, 8],
    [FAR_OUT],
    [-FAR_OUT],
    [FAR_OUT, -FAR_OUT, 8],
    [8] * 40,
    [3] * 40,
    [0] * 40,
    list(range(40)),
    [FAR_OUT] * 40,
)
FAR_NUMBERS = (-2, 61, 62, 200, 201, 10 ** 6, -(10 ** 6), FAR_OUT, -FAR_OUT)


def site_of(measures, *rows):
    """A site on which these rows lie."""
    site = Site(Plan(*measures))
    for row in rows:
        site.lay(row)
    return site


class SiteCase(RefusalCase):
    def answers(self, site):
        """All that a site tells of what lies and of the deeds."""
        stood = site.stood()
        behind = [site.behind(number) for number in range(stood + 1)]
        return site.height(), site.roof(), site.rows(), stood, behind, site.done()

    def check_deed_refused(self, name, site, deed, *handed):
        """A refused deed changes nothing, but counts as done unless the deeds are spent."""
        before = self.answers(site)
        self.check_refused(name, deed, *handed)
        counted = 0 if name == "DeedsSpent" else 1
        self.assertEqual(self.answers(site), before[:-1] + (before[-1] + counted,))

    def check_question_refused(self, name, site, question, *handed):
        before = self.answers(site)
        self.check_refused(name, question, *handed)
        self.assertEqual(self.answers(site), before)

    def refuse(self, site, times):
        """So many deeds that are refused with NotFilled."""
        for time in range(times):
            self.check_refused("NotFilled", site.lay, [])


class InterfaceTest(SiteCase):
    def test_arguments(self):
        told = {
            "lay": ["self", "row"],
            "take_off": ["self"],
            "height": ["self"],
            "roof": ["self"],
            "rows": ["self"],
            "breaks": ["self", "row"],
            "stood": ["self"],
            "done": ["self"],
            "behind": ["self", "number"],
            "onward": ["self", "height"],
        }
        for name, arguments in told.items():
            with self.subTest(name=name):
                self.assertEqual(list(inspect.signature(getattr(Site, name)).parameters), arguments)
        self.assertEqual(list(inspect.signature(Site).parameters), ["plan"])

    def test_by_name(self):
        site = Site(plan=Plan(*THREE))
        self.assertEqual(site.lay(row=[3, 5]), 1)
        self.assertEqual(site.breaks(row=[3, 5]), [(1, 3, 3)])
        self.assertEqual(site.behind(number=1), [1])
        self.assertEqual(site.onward(height=2), (2, [0]))

    def test_kinds(self):
        site = Site(Plan(*THREE))
        self.assertIs(type(site.lay((3, 5))), int)
        self.assertIs(type(site.lay([5, 3])), int)
        for told in (site.height(), site.stood(), site.done()):
            self.assertIs(type(told), int)
        for told in (site.roof(), site.rows(), site.behind(0), site.behind(2), site.breaks((3, 5))):
            self.assertIs(type(told), list)
        for number in site.roof() + site.behind(2):
            self.assertIs(type(number), int)
        for row in site.rows():
            self.assertIs(type(row), list)
        for clash in site.breaks((3, 5)):
            self.assertIs(type(clash), tuple)
            self.assertEqual([type(number) for number in clash], [int, int, int])
        told = site.onward(5)
        self.assertIs(type(told), tuple)
        self.assertEqual([type(part) for part in told], [int, list])
        self.assertIs(type(site.take_off()), list)
        site = Site(Plan(*THREE))
        site.lay((8,))
        self.assertIs(type(site.take_off()), list)

    def test_the_beginning(self):
        for measures in (PLAIN, THREE, NO_COURSE, NINE):
            self.assertEqual(self.answers(Site(Plan(*measures))), (0, [], [], 0, [[]], 0))


class LayTest(SiteCase):
    def test_written_out(self):
        site = Site(Plan(*THREE))
        self.assertEqual(site.lay([3, 5]), 1)
        self.assertEqual(self.answers(site), (1, [1], [[3, 5]], 1, [[], [1]], 1))
        self.assertEqual(site.lay([5, 3]), 2)
        self.assertEqual(site.lay([8]), 3)
        self.assertEqual(site.lay([3, 5]), 4)
        self.assertEqual(site.roof(), [1, 2, 0, 1])
        self.assertEqual(site.rows(), [[3, 5], [5, 3], [8], [3, 5]])
        self.assertEqual(site.take_off(), [3, 5])
        self.assertEqual(site.take_off(), [8])
        behind = [[], [1], [1, 2], [1, 2, 0], [1, 2, 0, 1], [1, 2, 0], [1, 2]]
        self.assertEqual(self.answers(site), (2, [1, 2], [[3, 5], [5, 3]], 6, behind, 6))
        self.assertEqual(site.lay([8]), 3)
        self.assertEqual(self.answers(site), (3, [1, 2, 0], [[3, 5], [5, 3], [8]], 7, behind + [[1, 2, 0]], 7))

    def test_each_course_alone(self):
        for measures in (PLAIN, THREE, NINE, (12, [2, 3, 4], 6, 6)):
            for number, row in enumerate(courses_by_the_words(*measures[:2])):
                for kind in (list, tuple):
                    site = Site(Plan(*measures))
                    handed = kind(row)
                    self.assertEqual(site.lay(handed), 1)
                    self.assertEqual(handed, kind(row))
                    self.assertEqual(self.answers(site), (1, [number], [row], 1, [[], [number]], 1))
                    self.assertEqual(site.take_off(), row)
                    self.assertEqual(self.answers(site), (0, [], [], 2, [[], [number], []], 2))

    def test_all_of_three_rows(self):
        for measures in (NINE, THREE, (8, [3, 4, 5], 2, 1), (8, [3, 4, 5], 1, 2), (6, [2, 3, 4], 1, 1)):
            near, far = tables_of(measures)
            rows = courses_by_the_words(*measures[:2])
            for roof in itertools.product(range(len(rows)), repeat=3):
                self.check_three(measures, near, far, rows, list(roof))

    def check_three(self, measures, near, far, rows, roof):
        site = site_of(measures, rows[roof[0]])
        if not near[roof[0]][roof[1]]:
            self.check_deed_refused("NearBroken", site, site.lay, rows[roof[1]])
            return
        self.assertEqual(site.lay(rows[roof[1]]), 2)
        if not near[roof[1]][roof[2]]:
            self.check_deed_refused("NearBroken", site, site.lay, rows[roof[2]])
        elif not far[roof[0]][roof[2]]:
            self.check_deed_refused("FarBroken", site, site.lay, rows[roof[2]])
        else:
            self.assertEqual(site.lay(rows[roof[2]]), 3)
            self.assertEqual(site.roof(), roof)

    def test_not_filled(self):
        for site in (Site(Plan(*THREE)), site_of(THREE, [3, 5], [8])):
            for row in UNFILLED:
                for kind in (list, tuple):
                    handed = kind(row)
                    self.check_deed_refused("NotFilled", site, site.lay, handed)
                    self.assertEqual(handed, kind(row))

    def test_no_course_at_all(self):
        site = Site(Plan(*NO_COURSE))
        for row in ([7], [2, 4], [4, 4], [2, 2, 2], [8], [], [2, 4, 1]):
            self.check_deed_refused("NotFilled", site, site.lay, row)
        self.check_deed_refused("BareRoof", site, site.take_off)

    def test_near_broken_alone(self):
        # The joints 3 and 5 are apart by 2 and no more.
        for near in range(1, 7):
            site = site_of((8, [3, 5, 8], near, 1), [3, 5])
            if near <= 2:
                self.assertEqual(site.lay([5, 3]), 2)
            else:
                self.check_deed_refused("NearBroken", site, site.lay, [5, 3])
            # With another course between them the near distance is not asked for.
            site = site_of((8, [3, 5, 8], near, 1), [3, 5], [8])
            self.assertEqual(site.lay([5, 3]), 3)

    def test_far_broken_alone(self):
        for far in range(1, 7):
            site = site_of((8, [3, 5, 8], 1, far), [3, 5], [8])
            if far <= 2:
                self.assertEqual(site.lay([5, 3]), 3)
            else:
                self.check_deed_refused("FarBroken", site, site.lay, [5, 3])
            # The far distance is not asked for side by side, nor with two courses between.
            self.assertEqual(site_of((8, [3, 5, 8], 1, far), [3, 5]).lay([5, 3]), 2)
            site = site_of((8, [3, 5, 8], 1, far), [3, 5], [8], [8])
            self.assertEqual(site.lay([3, 5]), 4)

    def test_near_broken_ahead_of_far_broken(self):
        # A row with the joint 4 is nearer than 2 to both 3 and 5.
        site = site_of((8, [3, 4, 5], 2, 2), [3, 5], [5, 3])
        self.check_deed_refused("NearBroken", site, site.lay, [4, 4])
        self.check_deed_refused("NearBroken", site, site.lay, [5, 3])
        self.check_deed_refused("FarBroken", site, site.lay, [3, 5])

    def test_not_filled_ahead_of_near_and_far(self):
        site = site_of((8, [3, 4, 5], 2, 2), [3, 5], [5, 3])
        for row in ([4, 3], [3, 4], [5, 4], [5], [4, 5, 3], [3, 6], [4, 4, 0]):
            self.check_deed_refused("NotFilled", site, site.lay, row)

    def test_roof_full(self):
        site = Site(Plan(*THREE))
        for height in range(1, 20):
            self.assertEqual(site.lay([8]), height)
        self.assertEqual(site.lay([3, 5]), 20)
        # The last would be laid but for the height, the next is too near, the others do not fill.
        for row in ([5, 3], [3, 5]) + UNFILLED:
            self.check_deed_refused("RoofFull", site, site.lay, row)
        self.assertEqual(site.take_off(), [3, 5])
        self.assertEqual(site.lay([5, 3]), 20)
        self.check_deed_refused("RoofFull", site, site.lay, [8])

    def test_roof_full_ahead_of_far_broken(self):
        site = Site(Plan(8, [3, 5, 8], 2, 3))
        for time in range(18):
            site.lay([8])
        site.lay([3, 5])
        site.lay([8])
        self.check_deed_refused("RoofFull", site, site.lay, [5, 3])
        site.take_off()
        site.take_off()
        site.take_off()
        site.lay([3, 5])
        site.lay([8])
        self.check_deed_refused("FarBroken", site, site.lay, [5, 3])

    def test_a_row_changed_later(self):
        site = Site(Plan(*THREE))
        handed = [3, 5]
        site.lay(handed)
        handed[0] = 8
        handed.pop()
        handed.append(99)
        self.assertEqual(self.answers(site), (1, [1], [[3, 5]], 1, [[], [1]], 1))
        self.assertEqual(site.breaks([3, 5]), [(1, 3, 3)])
        self.assertEqual(site.take_off(), [3, 5])


class TakeOffTest(SiteCase):
    def test_the_last_goes_first(self):
        rows = [[3, 5], [5, 3], [8], [8], [3, 5]]
        site = site_of(THREE, *rows)
        for left in range(4, -1, -1):
            self.assertEqual(site.take_off(), rows[left])
            self.assertEqual(site.height(), left)
            self.assertEqual(site.rows(), rows[:left])
        self.check_deed_refused("BareRoof", site, site.take_off)

    def test_bare_roof(self):
        site = Site(Plan(*THREE))
        for time in range(3):
            self.check_deed_refused("BareRoof", site, site.take_off)
        site.lay([8])
        self.assertEqual(site.take_off(), [8])
        self.check_deed_refused("BareRoof", site, site.take_off)

    def test_what_may_lie_again_behind_it(self):
        # Only what lies bears on what is laid.
        site = site_of(THREE, [3, 5])
        self.check_deed_refused("NearBroken", site, site.lay, [3, 5])
        site.take_off()
        self.assertEqual(site.lay([3, 5]), 1)
        self.assertEqual(site.lay([8]), 2)
        self.check_deed_refused("FarBroken", site, site.lay, [3, 5])
        site.take_off()
        self.assertEqual(site.lay([5, 3]), 2)

    def test_from_a_full_roof(self):
        site = site_of(PLAIN, *[[8]] * 20)
        for left in range(19, -1, -1):
            self.assertEqual(site.take_off(), [8])
            self.assertEqual(site.height(), left)
        self.check_deed_refused("BareRoof", site, site.take_off)

    def test_a_row_told_and_changed(self):
        site = site_of(THREE, [8], [3, 5], [5, 3])
        told = site.take_off()
        told[0] = 99
        told.append(7)
        self.assertEqual(site.rows(), [[8], [3, 5]])
        self.assertEqual(site.behind(3), [0, 1, 2])
        self.assertEqual(site.lay([5, 3]), 3)
        self.assertEqual(site.rows(), [[8], [3, 5], [5, 3]])
        self.assertEqual(site.take_off(), [5, 3])


class DeedsSpentTest(SiteCase):
    def check_spent(self, site):
        for row in ([8], [3, 5], [5, 3]) + UNFILLED:
            self.check_deed_refused("DeedsSpent", site, site.lay, row)
        self.check_deed_refused("DeedsSpent", site, site.take_off)

    def stand(self, site, times):
        """So many deeds that stand, by turns a laying and a taking off."""
        for time in range(times):
            if site.height() == 0:
                self.assertEqual(site.lay([8]), 1)
            else:
                self.assertEqual(site.take_off(), [8])

    def test_the_sixtieth_stands(self):
        site = Site(Plan(*THREE))
        self.stand(site, 59)
        self.assertEqual((site.height(), site.stood(), site.done()), (1, 59, 59))
        self.assertEqual(site.take_off(), [8])
        self.assertEqual((site.height(), site.stood(), site.done()), (0, 60, 60))
        # No course lies, so the taking off here would be refused in any case.
        self.check_spent(site)
        self.assertEqual((site.height(), site.stood(), site.done()), (0, 60, 60))

    def test_sixty_with_a_course_left(self):
        site = site_of(THREE, [3, 5], [5, 3])
        for time in range(29):
            self.assertEqual(site.lay([8]), 3)
            self.assertEqual(site.take_off(), [8])
        self.assertEqual((site.height(), site.stood(), site.done()), (2, 60, 60))
        self.check_spent(site)
        self.assertEqual(site.roof(), [1, 2])

    def test_sixty_with_a_full_roof(self):
        site = site_of(THREE, *[[8]] * 20)
        for time in range(20):
            site.take_off()
        for time in range(20):
            site.lay([8])
        self.assertEqual((site.height(), site.stood(), site.done()), (20, 60, 60))
        self.check_spent(site)

    def test_sixty_with_refused_ones_among_them(self):
        site = Site(Plan(*THREE))
        for time in range(59):
            self.stand(site, 1)
            self.refuse(site, 2)
        self.assertEqual((site.stood(), site.done()), (59, 177))
        self.refuse(site, 22)
        self.assertEqual((site.stood(), site.done()), (59, 199))
        self.stand(site, 1)
        self.assertEqual((site.stood(), site.done()), (60, 200))
        self.check_spent(site)

    def test_two_hundred_done(self):
        site = site_of(THREE, [8], [3, 5])
        for time in range(66):
            self.check_deed_refused("NotFilled", site, site.lay, [])
            self.check_deed_refused("NearBroken", site, site.lay, [3, 5])
            self.check_deed_refused("NotFilled", site, site.lay, [4, 4])
        self.assertEqual((site.stood(), site.done()), (2, 200))
        self.check_spent(site)
        self.assertEqual((site.stood(), site.done()), (2, 200))

    def test_two_hundred_refused(self):
        site = Site(Plan(*THREE))
        for time in range(200):
            self.check_deed_refused("BareRoof", site, site.take_off)
        self.assertEqual((site.stood(), site.done()), (0, 200))
        self.check_spent(site)

    def test_every_refusal_counts(self):
        site = Site(Plan(8, [3, 5, 8], 2, 3))
        self.check_deed_refused("BareRoof", site, site.take_off)
        self.check_deed_refused("NotFilled", site, site.lay, [7])
        site.lay([3, 5])
        self.check_deed_refused("NearBroken", site, site.lay, [3, 5])
        site.lay([8])
        self.check_deed_refused("FarBroken", site, site.lay, [5, 3])
        for time in range(18):
            site.lay([8])
        self.check_deed_refused("RoofFull", site, site.lay, [8])
        self.assertEqual((site.height(), site.stood(), site.done()), (20, 20, 25))
        for time in range(175):
            self.check_refused("RoofFull", site.lay, [8])
        self.assertEqual((site.height(), site.stood(), site.done()), (20, 20, 200))
        self.check_spent(site)

    def test_the_two_hundredth_stands(self):
        site = Site(Plan(*THREE))
        self.refuse(site, 199)
        self.assertEqual((site.stood(), site.done()), (0, 199))
        self.assertEqual(site.lay([8]), 1)
        self.assertEqual((site.stood(), site.done()), (1, 200))
        self.check_spent(site)
        self.assertEqual(self.answers(site), (1, [0], [[8]], 1, [[], [0]], 200))

    def test_the_two_hundredth_takes_off(self):
        site = site_of(THREE, [8])
        self.refuse(site, 198)
        self.assertEqual(site.take_off(), [8])
        self.assertEqual((site.stood(), site.done()), (2, 200))
        self.check_spent(site)

    def test_for_each_count_of_deeds_that_stand(self):
        for standing in range(61):
            site = Site(Plan(*THREE))
            self.stand(site, standing)
            refused = 200 - standing if standing < 60 else 0
            self.refuse(site, refused)
            self.assertEqual((site.stood(), site.done()), (standing, standing + refused))
            self.check_deed_refused("DeedsSpent", site, site.lay, [8])
            self.check_deed_refused("DeedsSpent", site, site.take_off)

    def test_questions_are_no_deeds(self):
        site = site_of(THREE, [3, 5])
        for time in range(250):
            self.assertEqual(self.answers(site), (1, [1], [[3, 5]], 1, [[], [1]], 1))
            self.assertEqual(site.breaks([3, 5]), [(1, 3, 3)])
            self.assertEqual(site.onward(3), (3, [0, 0]))
            self.check_refused("NotFilled", site.breaks, [])
            self.check_refused("NoDeed", site.behind, 2)
            self.check_refused("BadHeight", site.onward, 21)
        self.assertEqual(site.lay([8]), 2)
        self.assertEqual((site.stood(), site.done()), (2, 2))

    def test_questions_when_spent(self):
        site = site_of(THREE, [3, 5], [5, 3])
        self.refuse(site, 198)
        self.check_spent(site)
        behind = [[], [1], [1, 2]]
        self.assertEqual(self.answers(site), (2, [1, 2], [[3, 5], [5, 3]], 2, behind, 200))
        self.assertEqual(site.breaks([3, 5]), [(2, 3, 3)])
        self.assertEqual(site.breaks([5, 3]), [(1, 5, 5)])
        self.assertEqual(site.onward(4), (4, [0, 0]))
        self.check_question_refused("NotFilled", site, site.breaks, [7])
        self.check_question_refused("NoDeed", site, site.behind, 3)
        self.check_question_refused("BadHeight", site, site.onward, -1)


class AskedTest(SiteCase):
    def test_behind_each_deed_and_each_refusal(self):
        site = Site(Plan(*THREE))
        pile = []
        done = 0
        for row in ([3, 5], [3, 5], [5, 3], [], [8], None, [8], [3, 5], None, None, [7], None, None, None, [8]):
            done += 1
            before = list(pile)
            if row is None and pile:
                self.assertEqual(site.take_off(), pile.pop())
            elif row is None:
                self.check_refused("BareRoof", site.take_off)
            elif row in ([], [7]):
                self.check_refused("NotFilled", site.lay, row)
            elif pile and pile[-1] == row and row != [8]:
                self.check_refused("NearBroken", site.lay, row)
            else:
                pile.append(row)
                self.assertEqual(site.lay(row), len(pile))
            self.assertEqual((site.height(), site.rows(), site.done()), (len(pile), pile, done))
            self.assertEqual(site.roof(), [[[8], [3, 5], [5, 3]].index(each) for each in pile])
            if pile == before:
                self.assertEqual(site.behind(site.stood()), site.roof())
        self.assertEqual((site.stood(), site.done()), (11, 15))

    def test_lists_told_and_changed(self):
        site = site_of(THREE, [3, 5], [5, 3], [8])
        before = self.answers(site)
        site.roof().append(9)
        site.roof()[0] = 9
        self.assertEqual(self.answers(site), before)
        told = site.rows()
        told[0][0] = 9
        told[1].clear()
        told.pop()
        self.assertEqual(self.answers(site), before)
        for number in range(4):
            told = site.behind(number)
            told.append(9)
            told[0] = 9
            self.assertEqual(self.answers(site), before)
        self.assertEqual(site.breaks([5, 3]), [(2, 5, 5)])
        self.assertEqual(site.take_off(), [8])
        self.assertEqual(site.take_off(), [5, 3])
        self.assertEqual(site.take_off(), [3, 5])

    def test_the_same_row_twice_is_two_lists(self):
        site = site_of(PLAIN, [8], [8])
        site.rows()[0].append(5)
        told = site.rows()
        told[0].append(5)
        self.assertEqual(told, [[8, 5], [8]])
        self.assertEqual(site.rows(), [[8], [8]])
        self.assertIsNot(site.roof(), site.roof())
        self.assertIsNot(site.behind(2), site.behind(2))
        self.assertIsNot(site.rows(), site.rows())


class BreaksTest(SiteCase):
    def test_nothing_lies(self):
        for measures in (PLAIN, THREE, NINE, (12, [2, 3, 4], 6, 6)):
            site = Site(Plan(*measures))
            for row in courses_by_the_words(*measures[:2]):
                self.assertEqual(site.breaks(row), [])
                self.assertEqual(site.breaks(tuple(row)), [])

    def test_one_course_lies(self):
        # The joints are 2, 4 beneath and 2, 7 or 4 or 5, 7 above.
        for near, expected in (
            (1, [(1, 2, 2)]),
            (2, [(1, 2, 2)]),
            (3, [(1, 2, 2), (1, 2, 4)]),
            (4, [(1, 2, 2), (1, 2, 4), (1, 7, 4)]),
            (6, [(1, 2, 2), (1, 2, 4), (1, 7, 2), (1, 7, 4)]),
        ):
            for far in (1, 6):
                site = site_of((9, [2, 4, 5], near, far), [2, 2, 5])
                self.assertEqual(site.breaks([2, 5, 2]), expected)
        site = site_of((9, [2, 4, 5], 1, 6), [2, 2, 5])
        self.assertEqual(site.breaks([4, 5]), [(1, 4, 4)])
        self.assertEqual(site.breaks([5, 2, 2]), [])
        site = site_of((9, [2, 4, 5], 2, 1), [2, 2, 5])
        self.assertEqual(site.breaks([5, 2, 2]), [(1, 5, 4)])

    def test_two_courses_lie(self):
        # The last has the joint 5, the one beneath it the joints 2, 4.
        site = site_of((9, [2, 4, 5], 1, 3), [2, 2, 5], [5, 4])
        self.assertEqual(site.breaks([5, 4]), [(1, 5, 5), (2, 5, 4)])
        self.assertEqual(site.breaks([2, 5, 2]), [(2, 2, 2), (2, 2, 4)])
        self.assertEqual(site.breaks([5, 2, 2]), [(1, 5, 5), (2, 5, 4)])
        self.assertEqual(site.breaks([4, 5]), [(2, 4, 2), (2, 4, 4)])
        site = site_of((9, [2, 4, 5], 1, 6), [2, 2, 5], [5, 4])
        self.assertEqual(
            site.breaks([5, 2, 2]), [(1, 5, 5), (2, 5, 2), (2, 5, 4), (2, 7, 2), (2, 7, 4)]
        )

    def test_near_and_far_are_not_taken_for_one_another(self):
        # The joints are 3 and 5, apart by 2 and no more.
        for near, far in all_distances():
            site = site_of((8, [3, 5, 8], near, far), [3, 5])
            self.assertEqual(site.breaks([5, 3]), [(1, 5, 3)] if near > 2 else [])
            site.lay([8])
            self.assertEqual(site.breaks([5, 3]), [(2, 5, 3)] if far > 2 else [])
            site.lay([8])
            self.assertEqual(site.breaks([5, 3]), [])
            self.assertEqual(site.breaks([3, 5]), [])

    def test_of_own_joint_and_joint_beneath(self):
        site = site_of((8, [3, 5, 8], 6, 6), [3, 5])
        self.assertEqual(site.breaks([5, 3]), [(1, 5, 3)])
        site = site_of((8, [3, 5, 8], 6, 6), [5, 3], [8])
        self.assertEqual(site.breaks([3, 5]), [(2, 3, 5)])

    def test_against_the_words(self):
        for measures in (NINE, THREE, (12, [2, 3, 4], 1, 1), (8, [2, 4, 8], 2, 3), (8, [2, 3, 8], 1, 6)):
            rows = courses_by_the_words(*measures[:2])
            near, far = tables_of(measures)
            for roof in itertools.product(range(len(rows)), repeat=2):
                if not is_roof_by_the_words(near, far, roof):
                    continue
                site = Site(Plan(*measures))
                pile = Pile(measures)
                for number in roof:
                    site.lay(rows[number])
                    pile.lay(rows[number])
                before = self.answers(site)
                for row in rows:
                    self.assertEqual(outcome(site.breaks, row), pile.breaks(row))
                self.assertEqual(self.answers(site), before)

    def test_laid_where_nothing_breaks(self):
        for measures in (NINE, THREE, (8, [2, 4, 8], 2, 3)):
            rows = courses_by_the_words(*measures[:2])
            for first, second in itertools.product(rows, repeat=2):
                site = site_of(measures, first)
                broken = site.breaks(second)
                self.assertIs(outcome(site.lay, second)[0] == "told", broken == [])

    def test_not_filled(self):
        for site in (Site(Plan(*THREE)), site_of(THREE, [3, 5]), site_of(THREE, [3, 5], [8])):
            for row in UNFILLED:
                for kind in (list, tuple):
                    handed = kind(row)
                    self.check_question_refused("NotFilled", site, site.breaks, handed)
                    self.assertEqual(handed, kind(row))
        site = Site(Plan(*NO_COURSE))
        self.check_question_refused("NotFilled", site, site.breaks, [7])

    def test_what_is_handed_in_stays(self):
        site = site_of(NINE, [2, 2, 5])
        for kind in (list, tuple):
            handed = kind([2, 5, 2])
            told = site.breaks(handed)
            self.assertEqual(handed, kind([2, 5, 2]))
            self.assertEqual(told, [(1, 2, 2)])
            told.append((1, 1, 1))
            self.assertEqual(site.breaks(handed), [(1, 2, 2)])

    def test_when_the_roof_is_full(self):
        site = site_of(THREE, *[[8]] * 18, [3, 5], [5, 3])
        self.assertEqual(site.height(), 20)
        self.assertEqual(site.breaks([5, 3]), [(1, 5, 5)])
        self.assertEqual(site.breaks([3, 5]), [(2, 3, 3)])
        self.assertEqual(site.breaks([8]), [])
        self.check_question_refused("NotFilled", site, site.breaks, [7])

    def test_when_the_deeds_are_spent(self):
        site = site_of(THREE, [3, 5], [5, 3])
        for time in range(29):
            site.lay([8])
            site.take_off()
        self.check_deed_refused("DeedsSpent", site, site.lay, [8])
        self.assertEqual(site.breaks([5, 3]), [(1, 5, 5)])
        self.assertEqual(site.breaks([3, 5]), [(2, 3, 3)])
        self.check_question_refused("NotFilled", site, site.breaks, [])

    def test_behind_a_taking_off(self):
        site = site_of(THREE, [3, 5], [5, 3], [8])
        self.assertEqual(site.breaks([5, 3]), [(2, 5, 5)])
        site.take_off()
        self.assertEqual(site.breaks([5, 3]), [(1, 5, 5)])
        site.take_off()
        self.assertEqual(site.breaks([5, 3]), [])
        site.take_off()
        self.assertEqual(site.breaks([3, 5]), [])


class BehindTest(SiteCase):
    def test_each_deed_that_stands(self):
        site = Site(Plan(*THREE))
        self.assertEqual(site.behind(0), [])
        site.lay([3, 5])
        self.refuse(site, 3)
        site.lay([5, 3])
        self.check_refused("NearBroken", site.lay, [5, 3])
        site.take_off()
        site.take_off()
        self.check_refused("BareRoof", site.take_off)
        site.lay([8])
        told = [site.behind(number) for number in range(6)]
        self.assertEqual(told, [[], [1], [1, 2], [1], [], [0]])
        self.assertEqual((site.stood(), site.done()), (5, 10))
        # And in any order, and again.
        for number in (3, 0, 5, 3, 1, 5):
            self.assertEqual(site.behind(number), told[number])

    def test_no_deed(self):
        site = Site(Plan(*THREE))
        for stood in range(4):
            for number in (-1, stood + 1, stood + 2, -stood - 1, -stood - 2) + FAR_NUMBERS:
                self.check_question_refused("NoDeed", site, site.behind, number)
            self.refuse(site, 2)
            self.check_question_refused("NoDeed", site, site.behind, stood + 1)
            site.lay([8])

    def test_all_sixty(self):
        site = Site(Plan(*PLAIN))
        expected = [[]]
        for time in range(3):
            for height in range(1, 11):
                site.lay([8])
                expected.append([0] * height)
            for height in range(9, -1, -1):
                site.take_off()
                expected.append([0] * height)
        self.assertEqual(site.stood(), 60)
        self.assertEqual([site.behind(number) for number in range(61)], expected)
        for number in (-1, 61, -61, -60, 62):
            self.check_question_refused("NoDeed", site, site.behind, number)
        self.check_deed_refused("DeedsSpent", site, site.lay, [8])
        self.check_question_refused("NoDeed", site, site.behind, 61)

    def test_new_at_each_call(self):
        site = site_of(THREE, [3, 5], [5, 3])
        site.take_off()
        expected = [[], [1], [1, 2], [1]]
        for number in (0, 1, 2, 3, 0, 3):
            told = site.behind(number)
            told.append(9)
            told[0] = 9
            self.assertEqual([site.behind(each) for each in range(4)], expected)
            self.assertEqual(site.roof(), [1])
        self.assertEqual(site.lay([5, 3]), 2)
        self.assertEqual(site.roof(), [1, 2])


class OnwardTest(SiteCase):
    def test_as_way_on(self):
        draw = random.Random(40)
        for measures in (PLAIN, THREE, NINE, NO_COURSE, (8, [2, 4, 8], 2, 3), (6, [2, 3, 4], 1, 1)):
            plan = Plan(*measures)
            rows = courses_by_the_words(*measures[:2])
            site = Site(plan)
            for time in range(25):
                for height in range(21):
                    self.assertEqual(site.onward(height), way_on(plan, site.roof(), height))
                for row in draw.sample(rows, min(2, len(rows))):
                    outcome(site.lay, row)
                if draw.randrange(4) == 0:
                    outcome(site.take_off)

    def test_written_out(self):
        site = Site(Plan(*NINE))
        self.assertEqual(site.onward(20), (4, [1, 2, 3, 1]))
        self.assertEqual(site.onward(2), (2, [0, 3]))
        self.assertEqual(site.onward(0), (0, []))
        site.lay([2, 5, 2])
        self.assertEqual(site.onward(20), (4, [2, 3, 1]))
        self.assertEqual(site.onward(2), (2, [2]))
        self.assertEqual(site.onward(1), (1, []))
        self.assertEqual(site.onward(0), (1, []))
        site.lay([4, 5])
        self.assertEqual(site.onward(3), (3, [3]))
        site.take_off()
        site.take_off()
        site.lay([2, 2, 5])
        self.assertEqual(site.onward(20), (2, [3]))
        site.lay([5, 4])
        self.assertEqual(site.onward(20), (2, []))

    def test_the_way_told_can_be_laid(self):
        for measures in (PLAIN, THREE, NINE, (8, [2, 4, 8], 2, 3), (6, [2, 3, 4], 1, 1), (12, [2, 3, 4], 1, 1)):
            plan = Plan(*measures)
            for number in range(len(plan.courses())):
                site = site_of(measures, plan.row(number))
                reached, way = site.onward(20)
                for course in way:
                    site.lay(plan.row(course))
                self.assertEqual(site.height(), reached)
                self.assertEqual(site.roof(), [number] + way)
                self.assertEqual(site.onward(20), (reached, []))

    def test_bad_height(self):
        full = site_of(PLAIN, *[[8]] * 20)
        for site in (Site(Plan(*THREE)), site_of(THREE, [3, 5], [8]), full, Site(Plan(*NO_COURSE))):
            for height in (-1, 21, -20, 40) + FAR_NUMBERS:
                self.check_question_refused("BadHeight", site, site.onward, height)

    def test_full_roof(self):
        site = site_of(PLAIN, *[[8]] * 20)
        for height in range(21):
            self.assertEqual(site.onward(height), (20, []))

    def test_asking_changes_nothing(self):
        site = site_of(THREE, [3, 5])
        before = self.answers(site)
        for height in range(21):
            reached, way = site.onward(height)
            way.append(9)
            self.assertEqual(self.answers(site), before)
            self.assertEqual(site.onward(height), (reached, way[:-1]))

    def test_when_the_deeds_are_spent(self):
        site = site_of(THREE, [3, 5])
        self.refuse(site, 199)
        self.check_deed_refused("DeedsSpent", site, site.lay, [8])
        self.assertEqual(site.onward(3), (3, [0, 0]))
        self.check_question_refused("BadHeight", site, site.onward, 21)


class ApartTest(SiteCase):
    def test_two_sites_over_one_plan(self):
        plan = Plan(*THREE)
        one = Site(plan)
        other = Site(plan)
        one.lay([3, 5])
        self.assertEqual(self.answers(other), (0, [], [], 0, [[]], 0))
        before = self.answers(one)
        other.lay([8])
        other.lay([5, 3])
        other.take_off()
        self.refuse(other, 197)
        self.check_deed_refused("DeedsSpent", other, other.lay, [8])
        self.assertEqual(self.answers(one), before)
        self.assertEqual(one.lay([5, 3]), 2)
        self.assertEqual(other.roof(), [0])
        self.assertEqual(self.answers(Site(plan)), (0, [], [], 0, [[]], 0))

    def test_sites_over_two_plans(self):
        one = site_of(THREE, [3, 5], [8])
        before = self.answers(one)
        other = site_of(NINE, [2, 2, 5], [5, 4])
        other.take_off()
        self.assertEqual(self.answers(one), before)
        self.assertEqual(other.rows(), [[2, 2, 5]])

    def test_the_plan_stays_as_it_is(self):
        plan = Plan(*THREE)
        courses = plan.courses()
        site = Site(plan)
        for row in ([3, 5], [5, 3], [7], [8], [5, 3]):
            outcome(site.lay, row)
        site.rows()[0].append(3)
        site.take_off().append(3)
        site.breaks([8])
        site.onward(20)[1].append(3)
        self.assertEqual(plan.courses(), courses)
        self.assertEqual((plan.eaves, plan.widths, plan.near, plan.far), THREE)


if __name__ == "__main__":
    unittest.main()
