"""Roofs mirrored and the other way up."""

from shinglelap.pairs import check_roof
from shinglelap.rows import mirrored_row


def mirrored(plan, roof):
    check_roof(plan, roof)
    return [plan.number(mirrored_row(plan.row(number))) for number in roof]


def upturned(plan, roof):
    check_roof(plan, roof)
    return list(reversed(roof))
