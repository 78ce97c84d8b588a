"""The roofs of a plan, counted and numbered without being listed."""

from shinglelap.errors import NoRoof
from shinglelap.pairs import (
    GREATEST_HEIGHT,
    check_height,
    check_roof,
    shares,
    top_followers,
    top_of,
    way_at,
    ways_by_steps,
)


class Ledger:
    def __init__(self, plan):
        self.plan = plan
        self.followers = top_followers(plan)
        self.ways = ways_by_steps(self.followers, GREATEST_HEIGHT)

    def how_many(self, height):
        check_height(height)
        return self.ways[height][()]

    def begun_by(self, height):
        check_height(height)
        if height == 0:
            return [0 for number in self.followers[()]]
        return shares(self.followers, self.ways[height - 1], ())

    def ended_by(self, height):
        # A roof the other way up is a roof again, so as many end with a course as begin with it.
        return self.begun_by(height)

    def roof_at(self, height, number):
        check_height(height)
        if not 0 <= number < self.how_many(height):
            raise NoRoof(f"no roof of height {height} has the number {number}")
        return way_at(self.followers, self.ways, (), height, number)

    def number_of(self, roof):
        check_height(len(roof))
        check_roof(self.plan, roof)
        number = 0
        for place, course in enumerate(roof):
            top = top_of(roof[:place])
            amounts = shares(self.followers, self.ways[len(roof) - place - 1], top)
            number = number + sum(amounts[:self.followers[top].index(course)])
        return number
