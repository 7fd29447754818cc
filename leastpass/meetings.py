"""The pairs of a load and a place that matter for given sizes.

All arguments of these functions have been checked.
"""

from leastpass.visits import first_visits_through


def required_pairs(sizes):
    """Return the required pairs in ascending order."""
    lots, bases = sizes
    places = range(len(lots))
    pairs = [(load, place) for load in places for place in places if load != place]
    return [(load, place) for load, place in pairs if lots[load] > 0 and bases[place] > 0]


def missed_pairs(sizes, plan):
    """Return the required pairs that the plan misses, in ascending order."""
    visits = {(load, place) for load, place, _ in first_visits_through(len(sizes[0]), plan)}
    return [pair for pair in required_pairs(sizes) if pair not in visits]


def meetings_in_order(sizes, plan):
    """Return (time, load, place) for each meeting of the plan, from the first to the last."""
    lots, bases = sizes
    visits = first_visits_through(len(lots), plan)
    return sorted([(time, load, place) for load, place, time in visits if lots[load] > 0 and bases[place] > 0])
