"""A pile of rows kept by the words of ../shared/DOC.md (points 13 to 17), to hold a site's answers against."""

from by_the_words import courses_by_the_words, joints_by_the_words, tables_of, way_on_by_the_words


class Pile:
    def __init__(self, measures):
        self.measures = measures
        self.courses = courses_by_the_words(*measures[:2])
        self.tables = tables_of(measures)
        self.lying = []
        self.after_deeds = [[]]
        self.counted = 0

    def answer(self, question, *handed):
        """("told", what is told) or ("refused", name of the error class), as `outcome` of a site's method."""
        return getattr(self, question)(*handed)

    def clash(self, row, depth):
        """All clashes with the course that lies so deep; 1 is the last one."""
        if len(self.lying) < depth:
            return []
        least = self.measures[2] if depth == 1 else self.measures[3]
        beneath = joints_by_the_words(self.lying[-depth])
        found = [
            (depth, own, other)
            for own in joints_by_the_words(row)
            for other in beneath
            if max(own, other) - min(own, other) < least
        ]
        return sorted(found)

    def spent(self):
        return len(self.after_deeds) - 1 == 60 or self.counted == 200

    def refusal_of_laying(self, row):
        if len(self.lying) == 20:
            return "RoofFull"
        if list(row) not in self.courses:
            return "NotFilled"
        if self.clash(row, 1):
            return "NearBroken"
        if self.clash(row, 2):
            return "FarBroken"
        return None

    def lay(self, row):
        if self.spent():
            return "refused", "DeedsSpent"
        self.counted += 1
        refusal = self.refusal_of_laying(row)
        if refusal:
            return "refused", refusal
        self.lying.append(list(row))
        self.after_deeds.append(self.numbers())
        return "told", len(self.lying)

    def take_off(self):
        if self.spent():
            return "refused", "DeedsSpent"
        self.counted += 1
        if not self.lying:
            return "refused", "BareRoof"
        row = self.lying.pop()
        self.after_deeds.append(self.numbers())
        return "told", row

    def numbers(self):
        return [self.courses.index(row) for row in self.lying]

    def height(self):
        return "told", len(self.lying)

    def roof(self):
        return "told", self.numbers()

    def rows(self):
        return "told", [list(row) for row in self.lying]

    def breaks(self, row):
        if list(row) not in self.courses:
            return "refused", "NotFilled"
        return "told", self.clash(row, 1) + self.clash(row, 2)

    def stood(self):
        return "told", len(self.after_deeds) - 1

    def done(self):
        return "told", self.counted

    def behind(self, number):
        if not 0 <= number < len(self.after_deeds):
            return "refused", "NoDeed"
        return "told", list(self.after_deeds[number])

    def onward(self, height):
        if not 0 <= height <= 20:
            return "refused", "BadHeight"
        return "told", way_on_by_the_words(*self.tables, self.numbers(), height)
