"""The way on from a roof that lies."""

from shinglelap.pairs import check_height, check_roof, top_followers, top_of, way_at, ways_by_steps


def way_on(plan, laid, height):
    check_height(height)
    check_height(len(laid))
    check_roof(plan, laid)
    followers = top_followers(plan)
    ways = ways_by_steps(followers, max(0, height - len(laid)))
    top = top_of(laid)
    steps = max([step for step, found in enumerate(ways) if found[top] > 0])
    return (len(laid) + steps, way_at(followers, ways, top, steps, 0))
