"""Pairs of courses that may follow one another, and the courses that may follow a pair.

A pair is a tuple of two course numbers, that of the lower course first.
"""


def near_followers(plan):
    numbers = list(range(len(plan.courses())))
    followers = []
    for lower in numbers:
        followers.append([upper for upper in numbers if plan.near_kept(lower, upper)])
    return followers


def pair_followers(plan):
    near = near_followers(plan)
    followers = {}
    # So the pairs come in order, by the lower course and then the upper one.
    for lower, uppers in enumerate(near):
        for upper in uppers:
            followers[(lower, upper)] = [number for number in near[upper] if plan.far_kept(lower, number)]
    return followers


def next_pairs(followers, pairs):
    reached = {}
    for lower, upper in pairs:
        for number in followers[(lower, upper)]:
            reached[(upper, number)] = True
    return sorted(reached)
