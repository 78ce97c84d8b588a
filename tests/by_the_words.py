"""Answers worked out by the words of ../shared/DOC.md alone, to hold the program's against."""

import functools
import itertools

FAR_OUT = 10 ** 30 - 1


def all_marks(eaves):
    places = range(1, eaves)
    for size in range(eaves):
        yield from itertools.combinations(places, size)


def all_rows(eaves):
    """Every row of numbers from 1 up with the sum `eaves`, made by its first number."""
    if eaves == 0:
        return [[]]
    return [[first] + rest for first in range(1, eaves + 1) for rest in all_rows(eaves - first)]


def all_widths():
    """Every choice of widths that a plan allows, rising."""
    for size in (1, 2, 3):
        yield from itertools.combinations(range(2, 9), size)


def all_shapes():
    """All eaves and widths that a plan allows, as (eaves, widths)."""
    return itertools.product(range(1, 13), all_widths())


def all_distances():
    """All near and far distances that a plan allows, as (near, far)."""
    return itertools.product(range(1, 7), repeat=2)


def joints_by_the_words(row):
    """Point 3."""
    return [sum(row[:size]) for size in range(1, len(row))]


def earlier_by_the_words(one, other):
    """Point 4, step by step."""
    one_joints = joints_by_the_words(one)
    other_joints = joints_by_the_words(other)
    for place in range(max(len(one_joints), len(other_joints))):
        if place >= len(one_joints):
            return True
        if place >= len(other_joints):
            return False
        if one_joints[place] != other_joints[place]:
            return one_joints[place] < other_joints[place]
    return False


def courses_by_the_words(eaves, widths):
    """Points 3 and 4: of the rows between all sets of joints those that fill, in their order."""
    rows = []
    for marks in all_marks(eaves):
        edges = (0,) + marks + (eaves,)
        row = [right - left for left, right in zip(edges, edges[1:])]
        if set(row) <= set(widths):
            rows.append(row)

    def compared(one, other):
        return earlier_by_the_words(other, one) - earlier_by_the_words(one, other)

    return sorted(rows, key=functools.cmp_to_key(compared))


def apart_by_the_words(one, other, least):
    """Point 6, of two rows."""
    pairs = itertools.product(joints_by_the_words(one), joints_by_the_words(other))
    return all(max(pair) - min(pair) >= least for pair in pairs)


def table_by_the_words(rows, least):
    """For each two of the rows whether they are apart, by their places."""
    return [[apart_by_the_words(one, other, least) for other in rows] for one in rows]


def is_roof_by_the_words(near, far, roof):
    """Point 7; `near` and `far` are tables of the courses."""
    if any(not 0 <= number < len(near) for number in roof):
        return False
    near_kept = all(near[lower][upper] for lower, upper in zip(roof, roof[1:]))
    return near_kept and all(far[lower][upper] for lower, upper in zip(roof, roof[2:]))


def roofs_one_higher(near, far, roofs):
    """All roofs with one course more than these, which are all of their height."""
    found = []
    for roof in roofs:
        for number in range(len(near)):
            near_kept = not roof[-1:] or near[roof[-1]][number]
            far_kept = not roof[-2:-1] or far[roof[-2]][number]
            if near_kept and far_kept:
                found.append(roof + [number])
    return found


def ends_by_the_words(near, far):
    """Point 8, of a plan that is not endless: (greatest height, pairs that end each height from 2 upwards)."""
    height = 0
    ends = []
    roofs = roofs_one_higher(near, far, [[]])
    while roofs:
        height += 1
        if height >= 2:
            ends.append(sorted({(roof[-2], roof[-1]) for roof in roofs}))
        roofs = roofs_one_higher(near, far, roofs)
    return height, ends


def tables_of(measures):
    """The tables `near` and `far` of a plan's courses; `measures` are (eaves, widths, near, far)."""
    eaves, widths, near, far = measures
    rows = courses_by_the_words(eaves, widths)
    return table_by_the_words(rows, near), table_by_the_words(rows, far)


def roofs_by_height(near, far, most):
    """All roofs of each height from 0 to `most`, put together course by course, in the order of point 10."""
    roofs = [[[]]]
    for height in range(1, most + 1):
        roofs.append(roofs_one_higher(near, far, roofs[-1]))
    return roofs


def pairs_one_higher(near, far, pairs):
    """How many roofs one course higher have which two courses last; `pairs` tells it of their height."""
    found = {}
    for (lower, upper), many in pairs.items():
        for number in range(len(near)):
            if near[upper][number] and far[lower][number]:
                found[upper, number] = found.get((upper, number), 0) + many
    return found


def ended_by_pairs(near, far, most):
    """Point 9, from height 1 to `most`: how many roofs end with each course, reckoned by pairs of courses."""
    numbers = range(len(near))
    ended = [[1 for number in numbers]]
    pairs = {(lower, upper): 1 for lower in numbers for upper in numbers if near[lower][upper]}
    while len(ended) < most:
        ended.append([sum(many for pair, many in pairs.items() if pair[1] == number) for number in numbers])
        pairs = pairs_one_higher(near, far, pairs)
    return ended


def begun_by_pairs(near, far, most):
    """The same of the course that roofs begin with: each is put together from its highest course downwards."""
    upper_first_near = [list(column) for column in zip(*near)]
    upper_first_far = [list(column) for column in zip(*far)]
    return ended_by_pairs(upper_first_near, upper_first_far, most)


def steps_reached(near, far, laid, most):
    """How many courses can follow those that lie, `most` at the most."""
    ends = {tuple(laid[-2:])}
    for steps in range(most):
        above = {tuple(roof[-2:]) for roof in roofs_one_higher(near, far, [list(end) for end in ends])}
        if not above:
            return steps
        ends = above
    return most


def way_on_by_the_words(near, far, laid, height):
    """Point 11, step by step: at each place the least course that still leads to the height reached."""
    reached = len(laid) + steps_reached(near, far, laid, max(0, height - len(laid)))
    roof = list(laid)
    while len(roof) < reached:
        left = reached - len(roof) - 1
        upon = roofs_one_higher(near, far, [roof])
        roof = next(higher for higher in upon if steps_reached(near, far, higher, left) == left)
    return reached, roof[len(laid):]


def first_way_by_all_ways(near, far, laid, height):
    """Point 11, from all ways on put together course by course."""
    roofs = [list(laid)]
    while len(roofs[0]) < height:
        higher = roofs_one_higher(near, far, roofs)
        if not higher:
            break
        roofs = higher
    first = min(roofs)
    return len(first), first[len(laid):]
