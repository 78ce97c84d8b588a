"""How near the joints of two rows lie to one another."""


def gap(one, other):
    nearest = None
    for joint in one:
        for mark in other:
            distance = abs(joint - mark)
            if nearest is None or distance < nearest:
                nearest = distance
    return nearest


def apart(one, other, least):
    return clashes(one, other, least) == []


def clashes(one, other, least):
    found = []
    # Both lists rise, so the clashes are found in the order they are told.
    for joint in one:
        for mark in other:
            if abs(joint - mark) < least:
                found.append((joint, mark))
    return found
