"""Rows of shingles laid side by side, and the joints where two of them meet."""


def joints(row):
    found = []
    place = 0
    # Where the last shingle ends is the end of the row, not a joint.
    for width in row[:-1]:
        place = place + width
        found.append(place)
    return found


def row_of(eaves, marks):
    row = []
    start = 0
    for mark in marks:
        row.append(mark - start)
        start = mark
    row.append(eaves - start)
    return row


def fills(eaves, widths, row):
    if len(row) == 0:
        return False
    for number in row:
        if number not in widths:
            return False
    return sum(row) == eaves


def earlier(one, other):
    # Lists of numbers compare just as rows are ordered: by the first place
    # where they differ, and else the one that ends first is the lesser.
    return joints(one) < joints(other)


def mirrored_row(row):
    return list(reversed(row))
