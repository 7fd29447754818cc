"""Boards that show what can happen under a plan."""

from leastpass.boards import deal_board


def deal_with_middle(sizes, middle):
    """Deal a board on which only the cards in the middle can change their owners.

    The middle lists tuples of "load" or "heap" and a place, from the lowest
    card to the highest. The other cards of loads are below the middle, so they
    stay in their loads; the other cards of heaps are above it, so they stay in
    their heaps. No place has cards of its load and of its heap in the middle.
    """
    lots, bases = sizes
    below = []
    above = []
    for place, lot in enumerate(lots):
        below.extend([place] * (lot - middle.count(("load", place))))
        above.extend([place] * (bases[place] - middle.count(("heap", place))))
    return deal_board(sizes, below + [place for _, place in middle] + above)


def deal_against_meeting(sizes, load, place):
    """Deal a board that is unsettled as long as the load has not visited the place.

    Until then the load has a card above a card of the heap of the place.
    """
    return deal_with_middle(sizes, [("heap", place), ("load", load)])
