"""How tests hold a refusal against the twelve error classes."""

import unittest

from shinglelap import errors

NAMES = (
    "BadMeasure", "UnknownCourse", "NotFilled", "NearBroken", "FarBroken", "BadHeight",
    "NoRoof", "NotRoof", "RoofFull", "BareRoof", "DeedsSpent", "NoDeed",
)


def refusal_of(error):
    """The name of the one class among the twelve that an error is of."""
    names = [name for name in NAMES if isinstance(error, getattr(errors, name))]
    assert len(names) == 1 and isinstance(error, errors.RoofError) and isinstance(error, ValueError), error
    return names[0]


def outcome(deed, *handed):
    """("told", what is told) or ("refused", name of the error class)."""
    try:
        return "told", deed(*handed)
    except errors.RoofError as error:
        return "refused", refusal_of(error)


class RefusalCase(unittest.TestCase):
    def check_refused(self, name, deed, *handed):
        with self.subTest(name=name, handed=handed):
            self.assertEqual(outcome(deed, *handed), ("refused", name))
