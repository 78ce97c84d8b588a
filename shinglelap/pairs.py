"""What several modules need: which courses may follow which, in how many ways, and two checks.

A pair is a tuple of two course numbers, that of the lower course first. The top of a roof is a
tuple of its last two course numbers, or of all it has: no course further down bears on what follows.
"""

from shinglelap.errors import BadHeight, NotRoof

GREATEST_HEIGHT = 20


def check_height(height):
    if not 0 <= height <= GREATEST_HEIGHT:
        raise BadHeight(f"a height of {height}")


def check_roof(plan, roof):
    if not plan.is_roof(roof):
        raise NotRoof("the list is no roof")


def near_followers(plan):
    numbers = list(range(len(plan.courses())))
    followers = []
    for lower in numbers:
        followers.append([upper for upper in numbers if plan.near_kept(lower, upper)])
    return followers


def pair_followers(plan):
    near = near_followers(plan)
    followers = {}
    # So the pairs come in order, by the lower course and then the upper one.
    for lower, uppers in enumerate(near):
        for upper in uppers:
            followers[(lower, upper)] = [number for number in near[upper] if plan.far_kept(lower, number)]
    return followers


def next_pairs(followers, pairs):
    reached = {}
    for lower, upper in pairs:
        for number in followers[(lower, upper)]:
            reached[(upper, number)] = True
    return sorted(reached)


def top_of(roof):
    return tuple(roof[-2:])


def raised(top, number):
    return top_of(top + (number,))


def top_followers(plan):
    near = near_followers(plan)
    followers = pair_followers(plan)
    followers[()] = list(range(len(near)))
    for lower, uppers in enumerate(near):
        followers[(lower,)] = uppers
    return followers


def shares(followers, ways, top):
    """How many ways go on with each follower of a top, if `ways` tells how many go on from each top behind it."""
    return [ways[raised(top, number)] for number in followers[top]]


def ways_by_steps(followers, most):
    """For each number of steps up to `most` a dict: in how many ways so many courses can follow each top."""
    ways = [dict([(top, 1) for top in followers])]
    for steps in range(most):
        ways.append(dict([(top, sum(shares(followers, ways[steps], top))) for top in followers]))
    return ways


def place_among(amounts, number):
    place = 0
    for amount in amounts:
        if number < amount:
            break
        number = number - amount
        place = place + 1
    return place


def way_at(followers, ways, top, steps, number):
    """The way of so many steps from a top which has this number among all of them."""
    way = []
    for left in range(steps - 1, -1, -1):
        amounts = shares(followers, ways[left], top)
        place = place_among(amounts, number)
        number = number - sum(amounts[:place])
        way.append(followers[top][place])
        top = raised(top, way[-1])
    return way
