"""Deals as paths through the numbers of cards per place up to a threshold.

If the threshold goes up card by card, these numbers go from 0 to the sizes of
the hands, one place by 1 at a time. So a deal is a path, and deals are counted
without dealing them. All arguments have been checked.
"""

from math import comb

from leastpass.errors import IndexTooLarge, ProblemTooLarge
from leastpass.kinds import is_natural
from leastpass.meetings import meetings_in_order
from leastpass.visits import positions_through

_LARGEST_PROBLEM = 4096


class Flow:
    """What a plan does to the numbers of cards per place up to a threshold."""

    def __init__(self, sizes, plan):
        self.lots = sizes[0]
        self.meetings = [(load, place) for _, load, place in meetings_in_order(sizes, plan)]
        self.ends = positions_through(len(sizes[0]), plan)[-1]

    def parts(self, counts):
        """Split the numbers of cards per place into those in loads and those in heaps."""
        loads = [min(count, lot) for count, lot in zip(counts, self.lots)]
        heaps = [count - load for count, load in zip(counts, loads)]
        return (loads, heaps)

    def parts_after(self, counts):
        """Return the numbers after the plan in the loads, by their starts, and in the heaps."""
        loads, heaps = self.parts(counts)
        for load, place in self.meetings:
            both = loads[load] + heaps[place]
            loads[load] = min(both, self.lots[load])
            heaps[place] = both - loads[load]
        return (loads, heaps)

    def counts_after(self, counts):
        """Return the numbers of cards per place after the plan."""
        loads, heaps = self.parts_after(counts)
        for load, place in enumerate(self.ends):
            heaps[place] += loads[load]
        return tuple(heaps)


def require_small(hand_sizes):
    """Raise ProblemTooLarge if there are too many numbers of cards per place."""
    count = 1
    for size in hand_sizes:
        count *= size + 1
    if count > _LARGEST_PROBLEM:
        raise ProblemTooLarge(count)


def require_index(index, count):
    """Raise IndexTooLarge unless the index is one of that many."""
    if not is_natural(index) or index >= count:
        raise IndexTooLarge(count)


def all_counts(hand_sizes):
    """Return all numbers of cards per place, in ascending order."""
    found = [()]
    for size in hand_sizes:
        found = [counts + (count,) for counts in found for count in range(size + 1)]
    return found


def one_more(counts, place):
    """Return the numbers with one more card at the place."""
    return counts[:place] + (counts[place] + 1,) + counts[place + 1:]


def deals_of(hand_sizes):
    """Return the number of deals of that many cards to the places."""
    cards = 0
    deals = 1
    for size in hand_sizes:
        cards += size
        deals *= comb(cards, size)
    return deals


def paths_to_end(open_counts):
    """Return for each of the numbers how many paths lead on from there to the last of them.

    The numbers are in ascending order, and a path goes through them alone.
    """
    paths = {open_counts[-1]: 1}
    for counts in reversed(open_counts[:-1]):
        paths[counts] = sum([paths.get(one_more(counts, place), 0) for place in range(len(counts))])
    return paths


def number_of_paths(paths, hand_sizes):
    """Return how many paths there are in all; each begins where no card has been dealt."""
    return paths[(0,) * len(hand_sizes)]


def path_at(paths, hand_sizes, index):
    """Return the places along the path of that index; paths are in the order of these lists."""
    counts = (0,) * len(hand_sizes)
    owners = []
    while counts != hand_sizes:
        place = 0
        onward = paths.get(one_more(counts, place), 0)
        while index >= onward:
            index -= onward
            place += 1
            onward = paths.get(one_more(counts, place), 0)
        counts = one_more(counts, place)
        owners.append(place)
    return owners


def path_index(paths, hand_sizes, owners):
    """Return the index of the path along these places."""
    counts = (0,) * len(hand_sizes)
    index = 0
    for owner in owners:
        index += sum([paths.get(one_more(counts, place), 0) for place in range(owner)])
        counts = one_more(counts, owner)
    return index
