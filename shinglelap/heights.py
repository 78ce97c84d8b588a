"""How high the roofs of a plan go."""

from shinglelap.pairs import next_pairs, pair_followers


def ends_by_height(followers):
    ends = [list(followers)]
    above = next_pairs(followers, ends[-1])
    # A roof without its lowest course ends as before, so each height has only pairs
    # that the one below it has: where two heights have the same, all above have them.
    while above != ends[-1]:
        ends.append(above)
        above = next_pairs(followers, above)
    return ends


def pairs_beneath(followers, pairs):
    beneath = {}
    for lower, upper in pairs:
        for number in followers[(lower, upper)]:
            beneath.setdefault((upper, number), (lower, upper))
    return beneath


def ring_among(followers, pairs):
    beneath = pairs_beneath(followers, pairs)
    walked = []
    pair = pairs[0]
    # Each of these pairs has one of them beneath it, so the way down never ends.
    while pair not in walked:
        walked.append(pair)
        pair = beneath[pair]
    return [lower for lower, upper in reversed(walked[walked.index(pair):])]


class Heights:
    def __init__(self, plan):
        followers = pair_followers(plan)
        ends = ends_by_height(followers)
        self.endless = ends[-1] != []
        self.lead = []
        if self.endless:
            self.ring = ring_among(followers, ends[-1])
            self.greatest = None
            self.ends = []
        else:
            self.ring = []
            self.greatest = min(1, len(plan.courses())) + len(ends[:-1])
            self.ends = ends[:-1]
