"""Plans: the measures of a roof, the courses they allow, and which lists of courses are roofs."""

from shinglelap.distances import apart
from shinglelap.errors import BadMeasure, NotFilled, UnknownCourse
from shinglelap.rows import fills, joints

GREATEST_EAVES = 12
MOST_WIDTHS = 3
LEAST_WIDTH = 2
GREATEST_WIDTH = 8
GREATEST_DISTANCE = 6


def check_eaves(eaves):
    if not 1 <= eaves <= GREATEST_EAVES:
        raise BadMeasure(f"eaves of {eaves}")


def check_widths(widths):
    if not 1 <= len(widths) <= MOST_WIDTHS:
        raise BadMeasure("no width or too many of them")
    for width in widths:
        if not LEAST_WIDTH <= width <= GREATEST_WIDTH:
            raise BadMeasure(f"a width of {width}")
    if len(set(widths)) < len(widths):
        raise BadMeasure("two widths alike")


def check_distance(distance):
    if not 1 <= distance <= GREATEST_DISTANCE:
        raise BadMeasure(f"a distance of {distance}")


def rows_of_length(length, widths):
    if length == 0:
        return [[]]
    found = []
    for width in widths:
        if width <= length:
            for rest in rows_of_length(length - width, widths):
                found.append([width] + rest)
    return found


class Plan:
    def __init__(self, eaves, widths, near, far):
        check_eaves(eaves)
        check_widths(widths)
        check_distance(near)
        check_distance(far)
        self.eaves = eaves
        self.widths = sorted(widths)
        self.near = near
        self.far = far
        # Their joints compare as lists just as courses are ordered.
        self.order = sorted(rows_of_length(eaves, self.widths), key=joints)
        self.marks = [joints(row) for row in self.order]

    def courses(self):
        return [list(row) for row in self.order]

    def row(self, number):
        self.check_course(number)
        return list(self.order[number])

    def number(self, row):
        if not fills(self.eaves, self.widths, row):
            raise NotFilled("the row does not fill the eaves")
        return self.order.index(list(row))

    def near_kept(self, one, other):
        self.check_course(one)
        self.check_course(other)
        return apart(self.marks[one], self.marks[other], self.near)

    def far_kept(self, one, other):
        self.check_course(one)
        self.check_course(other)
        return apart(self.marks[one], self.marks[other], self.far)

    def is_roof(self, roof):
        for place, number in enumerate(roof):
            if not self.is_course(number):
                return False
            if place >= 1 and not self.near_kept(roof[place - 1], number):
                return False
            if place >= 2 and not self.far_kept(roof[place - 2], number):
                return False
        return True

    def is_course(self, number):
        return 0 <= number < len(self.order)

    def check_course(self, number):
        if not self.is_course(number):
            raise UnknownCourse(f"no course has the number {number}")
