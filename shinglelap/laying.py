"""Sites, on which a roof is laid and taken off course by course."""

from shinglelap.distances import clashes
from shinglelap.errors import BareRoof, DeedsSpent, FarBroken, NearBroken, NoDeed, RoofFull
from shinglelap.onward import way_on
from shinglelap.pairs import GREATEST_HEIGHT
from shinglelap.rows import joints

MOST_STANDING = 60
MOST_DONE = 200


class Site:
    def __init__(self, plan):
        self.plan = plan
        # The roof behind each deed that stands, the beginning first: the last of them is what lies.
        self.past = [[]]
        self.tried = 0

    def lay(self, row):
        self.begin_deed()
        number = self.number_to_lay(row)
        self.past.append(self.roof() + [number])
        return self.height()

    def take_off(self):
        self.begin_deed()
        laid = self.roof()
        if laid == []:
            raise BareRoof("no course lies")
        number = laid.pop()
        self.past.append(laid)
        return self.plan.row(number)

    def begin_deed(self):
        if self.stood() >= MOST_STANDING or self.tried >= MOST_DONE:
            raise DeedsSpent("no deed is left")
        # Counted ahead of any other refusal, since a refused deed is done too.
        self.tried = self.tried + 1

    def number_to_lay(self, row):
        laid = self.roof()
        if len(laid) >= GREATEST_HEIGHT:
            raise RoofFull("no course can lie upon the last one")
        number = self.plan.number(row)
        if len(laid) >= 1 and not self.plan.near_kept(laid[-1], number):
            raise NearBroken("a joint is too near to one of the last course")
        if len(laid) >= 2 and not self.plan.far_kept(laid[-2], number):
            raise FarBroken("a joint is too near to one of the last course but one")
        return number

    def height(self):
        return len(self.past[-1])

    def roof(self):
        return list(self.past[-1])

    def rows(self):
        return [self.plan.row(number) for number in self.past[-1]]

    def breaks(self, row):
        # Looking up its number refuses a row that does not fill the eaves.
        own = joints(self.plan.row(self.plan.number(row)))
        return self.broken(own, 1, self.plan.near) + self.broken(own, 2, self.plan.far)

    def broken(self, own, depth, least):
        if self.height() < depth:
            return []
        beneath = joints(self.plan.row(self.past[-1][-depth]))
        return [(depth, joint, mark) for joint, mark in clashes(own, beneath, least)]

    def stood(self):
        return len(self.past) - 1

    def done(self):
        return self.tried

    def behind(self, number):
        if not 0 <= number <= self.stood():
            raise NoDeed(f"no deed with the number {number} stands")
        return list(self.past[number])

    def onward(self, height):
        return way_on(self.plan, self.past[-1], height)
