"""The whole program: drawn uses of a site, its refusals, and objects that are apart (point 1 above all)."""

import importlib
import inspect
import random
import unittest

from by_the_words import courses_by_the_words
from pile import Pile
from refusals import NAMES, RefusalCase, outcome
from shinglelap import errors
from shinglelap.heights import Heights
from shinglelap.laying import Site
from shinglelap.ledger import Ledger
from shinglelap.onward import way_on
from shinglelap.plan import Plan
from shinglelap.turns import mirrored, upturned

INTERFACE = {
    "errors": ("RoofError",) + NAMES,
    "rows": ("joints", "row_of", "fills", "earlier", "mirrored_row"),
    "distances": ("gap", "apart", "clashes"),
    "plan": ("Plan",),
    "heights": ("Heights",),
    "ledger": ("Ledger",),
    "onward": ("way_on",),
    "turns": ("mirrored", "upturned"),
    "laying": ("Site",),
}
MEASURES = (
    (8, [8], 6, 6),
    (8, [3, 5, 8], 2, 1),
    (8, [3, 5, 8], 1, 3),
    (8, [2, 3, 8], 1, 1),
    (8, [2, 4, 8], 2, 3),
    (8, [2, 4, 8], 3, 2),
    (7, [2, 3, 7], 1, 2),
    (6, [2, 3, 4], 1, 1),
    (8, [3, 4, 5], 1, 2),
    (9, [2, 4, 5], 1, 2),
    (5, [2, 3], 1, 1),
    (4, [2], 1, 1),
    (7, [2, 4, 8], 1, 1),
    (12, [2, 3, 4], 1, 1),
)
QUESTIONS = ("height", "roof", "rows", "stood", "done")
DRAWN_ROWS = ([], [8], [7], [4, 4], [5, 4], [2, 2, 2, 2], [3, 5], [0], [-1, 9], [2] * 40)


class InterfaceTest(unittest.TestCase):
    def test_every_name_is_there(self):
        for module, names in INTERFACE.items():
            loaded = importlib.import_module(f"shinglelap.{module}")
            for name in names:
                with self.subTest(module=module, name=name):
                    self.assertTrue(callable(getattr(loaded, name)))
                    self.assertIs(inspect.isclass(getattr(loaded, name)), name[0].isupper())


class RefusalsTest(RefusalCase):
    """Each refusal as the program itself raises it, not only as its class stands."""

    def refusals(self):
        plan = Plan(8, [3, 5, 8], 2, 3)
        ledger = Ledger(plan)
        site = Site(plan)
        lone = Site(plan)
        lone.lay([3, 5])
        pair = Site(plan)
        pair.lay([3, 5])
        pair.lay([8])
        full = Site(plan)
        for time in range(20):
            full.lay([8])
        spent = Site(plan)
        for time in range(30):
            spent.lay([8])
            spent.take_off()
        yield "BadMeasure", lambda: Plan(13, [2], 1, 1)
        yield "UnknownCourse", lambda: plan.row(3)
        yield "UnknownCourse", lambda: plan.near_kept(0, 3)
        yield "UnknownCourse", lambda: plan.far_kept(-1, 0)
        yield "NotFilled", lambda: plan.number([7])
        yield "NotFilled", lambda: site.lay([7])
        yield "NotFilled", lambda: site.breaks([7])
        yield "NearBroken", lambda: lone.lay([3, 5])
        yield "FarBroken", lambda: pair.lay([5, 3])
        yield "BadHeight", lambda: ledger.how_many(21)
        yield "BadHeight", lambda: ledger.begun_by(21)
        yield "BadHeight", lambda: ledger.ended_by(-1)
        yield "BadHeight", lambda: ledger.roof_at(21, 0)
        yield "BadHeight", lambda: ledger.number_of([0] * 21)
        yield "BadHeight", lambda: way_on(plan, [], 21)
        yield "BadHeight", lambda: way_on(plan, [0] * 21, 20)
        yield "BadHeight", lambda: site.onward(-1)
        yield "NoRoof", lambda: ledger.roof_at(1, 3)
        yield "NotRoof", lambda: ledger.number_of([1, 1])
        yield "NotRoof", lambda: way_on(plan, [1, 1], 5)
        yield "NotRoof", lambda: mirrored(plan, [1, 1])
        yield "NotRoof", lambda: upturned(plan, [3])
        yield "RoofFull", lambda: full.lay([8])
        yield "BareRoof", lambda: site.take_off()
        yield "DeedsSpent", lambda: spent.lay([8])
        yield "DeedsSpent", lambda: spent.take_off()
        yield "NoDeed", lambda: site.behind(1)

    def test_taken_by_its_own_class_and_those_above(self):
        seen = set()
        for name, refused in self.refusals():
            seen.add(name)
            for taken in (getattr(errors, name), errors.RoofError, ValueError):
                with self.subTest(name=name, taken=taken.__name__):
                    with self.assertRaises(taken):
                        refused()
        self.assertEqual(seen, set(NAMES))

    def test_taken_by_no_other(self):
        for name, refused in self.refusals():
            try:
                refused()
            except ValueError as error:
                for other in NAMES:
                    with self.subTest(name=name, other=other):
                        self.assertIs(isinstance(error, getattr(errors, other)), other == name)


class WholeUseTest(unittest.TestCase):
    def drawn_row(self, draw, rows):
        if not rows or draw.randrange(6) == 0:
            return draw.choice(DRAWN_ROWS)
        return draw.choice(rows)

    def drawn_use(self, draw, pile, rows):
        """A method of a site and what is handed to it."""
        chance = draw.randrange(100)
        if chance < 50:
            return "lay", self.drawn_row(draw, rows)
        if chance < 55:
            # A row that can be laid, so that high roofs come about too.
            laid = [row for row in rows if pile.refusal_of_laying(row) is None]
            return ("lay", draw.choice(laid)) if laid else ("take_off",)
        if chance < 70:
            return ("take_off",)
        if chance < 80:
            return "breaks", self.drawn_row(draw, rows)
        if chance < 90:
            return "behind", draw.choice((-1, 0, 1, draw.randrange(62), len(pile.after_deeds) - 1))
        if chance < 93:
            return "onward", draw.choice((-1, 0, 21, 20, draw.randrange(21)))
        return (draw.choice(QUESTIONS),)

    def check_use(self, site, pile, use):
        name, handed = use[0], use[1:]
        kinds = [tuple(part) if isinstance(part, list) else part for part in handed]
        expected = pile.answer(name, *handed)
        told = outcome(getattr(site, name), *handed)
        self.assertEqual(told, expected, use)
        self.assertEqual([tuple(part) if isinstance(part, list) else part for part in handed], kinds)
        for question in QUESTIONS:
            self.assertEqual(outcome(getattr(site, question)), pile.answer(question), use)
        self.spoil(told)

    def spoil(self, told):
        """Changes every list told, which is to change nothing that is told later."""
        parts = [told[1]]
        while parts:
            part = parts.pop()
            if isinstance(part, (list, tuple)):
                parts.extend(part)
            if isinstance(part, list):
                part.append(77)
                part.reverse()

    def check_site(self, draw, measures, plan):
        site = Site(plan)
        pile = Pile(measures)
        rows = courses_by_the_words(*measures[:2])
        for time in range(260):
            use = self.drawn_use(draw, pile, rows)
            handed = [list(part) if isinstance(part, list) else part for part in use[1:]]
            if draw.randrange(2):
                handed = [tuple(part) if isinstance(part, list) else part for part in handed]
            self.check_use(site, pile, (use[0], *handed))
            for part in handed:
                if isinstance(part, list):
                    part.append(99)
        for number in range(-2, 63):
            self.assertEqual(outcome(site.behind, number), pile.behind(number))
        return pile

    def test_drawn_uses(self):
        draw = random.Random(50)
        for measures in MEASURES:
            plan = Plan(*measures)
            for time in range(6):
                self.check_site(draw, measures, plan)
            self.assertEqual(plan.courses(), courses_by_the_words(*measures[:2]))

    def test_mostly_layings_that_stand(self):
        # The roof gets full, and the sixtieth deed stands long before two hundred are done.
        draw = random.Random(51)
        for measures in ((8, [8], 6, 6), (8, [2, 3, 8], 1, 1), (8, [2, 4, 8], 2, 3), (12, [2, 3, 4], 1, 1)):
            rows = courses_by_the_words(*measures[:2])
            site = Site(Plan(*measures))
            pile = Pile(measures)
            for time in range(199):
                laid = [row for row in rows if pile.refusal_of_laying(row) is None]
                use = ("lay", list(draw.choice(laid or rows)))
                if draw.randrange(4) == 0:
                    use = ("take_off",)
                self.check_use(site, pile, use)
            self.assertEqual(pile.answer("stood"), ("told", 60))

    def test_two_sites_by_turns(self):
        draw = random.Random(52)
        measures = (8, [2, 4, 8], 2, 3)
        plan = Plan(*measures)
        rows = courses_by_the_words(*measures[:2])
        kept = [(Site(plan), Pile(measures)) for time in range(3)]
        for time in range(400):
            site, pile = draw.choice(kept)
            use = self.drawn_use(draw, pile, rows)
            self.check_use(site, pile, tuple(list(part) if isinstance(part, list) else part for part in use))
        for site, pile in kept:
            for question in QUESTIONS:
                self.assertEqual(outcome(getattr(site, question)), pile.answer(question))


class TogetherTest(unittest.TestCase):
    """What several modules tell of one plan agrees."""

    def test_heights_and_counts(self):
        for measures in MEASURES:
            plan = Plan(*measures)
            heights = Heights(plan)
            ledger = Ledger(plan)
            reached, way = way_on(plan, [], 20)
            if heights.endless:
                self.assertEqual(reached, 20)
                self.assertTrue(all(ledger.how_many(height) > 0 for height in range(21)))
            else:
                self.assertEqual(reached, heights.greatest)
                told = [ledger.how_many(height) > 0 for height in range(21)]
                self.assertEqual(told, [height <= heights.greatest for height in range(21)])
            self.assertEqual(ledger.roof_at(reached, 0), way)
            self.assertEqual(ledger.number_of(way), 0)

    def test_turned_roofs_have_numbers(self):
        draw = random.Random(53)
        for measures in MEASURES:
            plan = Plan(*measures)
            ledger = Ledger(plan)
            for height in range(21):
                many = ledger.how_many(height)
                for time in range(min(many, 5)):
                    roof = ledger.roof_at(height, draw.randrange(many))
                    for turned in (mirrored(plan, roof), upturned(plan, roof)):
                        self.assertTrue(plan.is_roof(turned))
                        self.assertEqual(ledger.roof_at(height, ledger.number_of(turned)), turned)

    def test_a_numbered_roof_can_be_laid(self):
        draw = random.Random(54)
        for measures in MEASURES:
            plan = Plan(*measures)
            ledger = Ledger(plan)
            for height in (1, 2, 3, 20):
                many = ledger.how_many(height)
                for time in range(min(many, 3)):
                    roof = ledger.roof_at(height, draw.randrange(many))
                    site = Site(plan)
                    for place, number in enumerate(roof):
                        self.assertEqual(site.breaks(plan.row(number)), [])
                        self.assertEqual(site.lay(plan.row(number)), place + 1)
                    self.assertEqual(site.roof(), roof)
                    self.assertEqual(ledger.number_of(site.roof()), ledger.number_of(roof))


class ApartTest(unittest.TestCase):
    def test_all_over_one_plan(self):
        plan = Plan(8, [2, 4, 8], 2, 3)
        courses = plan.courses()
        ledger = Ledger(plan)
        counts = [ledger.how_many(height) for height in range(21)]
        one = Site(plan)
        one.lay([4, 4])
        other = Site(plan)
        other.lay([8])
        Heights(plan).ring.append(99)
        Ledger(plan).begun_by(20).clear()
        way_on(plan, [0], 20)[1].clear()
        mirrored(plan, [0]).clear()
        other.take_off()
        self.assertEqual(one.rows(), [[4, 4]])
        self.assertEqual(plan.courses(), courses)
        self.assertEqual([ledger.how_many(height) for height in range(21)], counts)
        self.assertEqual([Ledger(plan).how_many(height) for height in range(21)], counts)
        self.assertEqual(Plan(8, [2, 4, 8], 2, 3).courses(), courses)


if __name__ == "__main__":
    unittest.main()
