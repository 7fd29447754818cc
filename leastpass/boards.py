"""Boards, their sizes, and the owners of their cards."""

from leastpass.errors import InvalidBoard, InvalidCount, InvalidDeal, InvalidPlan, InvalidSizes
from leastpass.kinds import is_hand, is_natural, is_place, is_round, is_row_pair, is_whole


def check_board(value):
    """Return None for a board, otherwise the first reason why it is none."""
    if not is_row_pair(value):
        return ("shape",)
    lots, hands = value
    # One loop for each reason: a reason is tested for all places before the next.
    for place, lot in enumerate(lots):
        if not is_natural(lot):
            return ("lot", place)
    for place, hand in enumerate(hands):
        if not is_hand(hand):
            return ("hand", place)
    for place, hand in enumerate(hands):
        if len(hand) < lots[place]:
            return ("short", place)
    return _duplicate_reason(hands)


def _duplicate_reason(hands):
    seen = set()
    for place, hand in enumerate(hands):
        for card in hand:
            if card in seen:
                return ("duplicate", place)
            seen.add(card)
    return None


def check_sizes(value):
    """Return None for sizes, otherwise the first reason why they are none."""
    if not is_row_pair(value):
        return ("shape",)
    lots, bases = value
    for place, lot in enumerate(lots):
        if not is_natural(lot):
            return ("lot", place)
    for place, base in enumerate(bases):
        if not is_natural(base):
            return ("base", place)
    return None


def check_plan(places, value):
    """Return None for a plan for that many places, otherwise the first reason."""
    require_places(places)
    if not isinstance(value, list):
        return ("plan",)
    for index, item in enumerate(value):
        if not is_round(places, item):
            return ("round", index)
    return None


def require_board(board):
    """Raise InvalidBoard unless the argument is a board."""
    reason = check_board(board)
    if reason is not None:
        raise InvalidBoard(reason)


def require_sizes(sizes):
    """Raise InvalidSizes unless the argument is sizes."""
    reason = check_sizes(sizes)
    if reason is not None:
        raise InvalidSizes(reason)


def require_places(places):
    """Raise InvalidCount unless the argument is a number of places."""
    if not is_whole(places) or places < 1:
        raise InvalidCount()


def require_plan(places, plan):
    """Raise InvalidCount or InvalidPlan unless the plan is one for that many places."""
    reason = check_plan(places, plan)
    if reason is not None:
        raise InvalidPlan(reason)


def require_board_and_plan(board, plan):
    """Raise InvalidBoard or InvalidPlan unless the arguments are a board and a plan for it."""
    require_board(board)
    require_plan(len(board[0]), plan)


def require_sizes_and_plan(sizes, plan):
    """Raise InvalidSizes or InvalidPlan unless the arguments are sizes and a plan for them."""
    require_sizes(sizes)
    require_plan(len(sizes[0]), plan)


def load_at(board, place):
    """Return the cards that the place passes next; the board has been checked."""
    lots, hands = board
    return hands[place][:lots[place]]


def heap_at(board, place):
    """Return the cards that the place keeps; the board has been checked."""
    lots, hands = board
    return hands[place][lots[place]:]


def sizes_of(board):
    """Return the lots and the bases of a board."""
    require_board(board)
    lots, hands = board
    bases = [len(hand) - lot for lot, hand in zip(lots, hands)]
    return (lots, tuple(bases))


def card_owners(board):
    """Return the places of the cards, from the lowest card to the highest."""
    require_board(board)
    _, hands = board
    held = [(card, place) for place, hand in enumerate(hands) for card in hand]
    return [place for _, place in sorted(held)]


def deal_board(sizes, owners):
    """Return the board on which the cards 0, 1, 2, ... have these owners."""
    require_sizes(sizes)
    lots, bases = sizes
    if not _is_deal(lots, bases, owners):
        raise InvalidDeal()
    hands = [[] for _ in lots]
    for card, place in enumerate(owners):
        hands[place].append(card)
    return (lots, tuple([tuple(hand) for hand in hands]))


def _is_deal(lots, bases, owners):
    if not isinstance(owners, list):
        return False
    missing = [lot + base for lot, base in zip(lots, bases)]
    for place in owners:
        if not is_place(len(missing), place):
            return False
        missing[place] -= 1
    return missing == [0] * len(missing)
