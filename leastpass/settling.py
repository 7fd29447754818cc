"""The low cards of a board, and when they are all in loads."""

from leastpass.boards import require_board, require_board_and_plan
from leastpass.rounds import boards_through
from leastpass.visits import plan_with_all_visits


def low_cards(board):
    """Return the lowest cards of the board, as many as the sum of its lots."""
    require_board(board)
    return _lowest_cards(board)


def is_settled(board):
    """Tell whether no low card lies in a heap."""
    require_board(board)
    return _has_settled(board)


def rounds_to_settle(board, plan):
    """Return after how many rounds of the repeated plan the board is settled, or None."""
    require_board_and_plan(board, plan)
    places = len(board[0])
    # Only a load at a place that is new to it changes, so later rounds settle nothing.
    boards = boards_through(board, plan_with_all_visits(places, plan))
    for time, reached in enumerate(boards):
        if _has_settled(reached):
            return time
    return None


def _lowest_cards(board):
    lots, hands = board
    cards = sorted([card for hand in hands for card in hand])
    return cards[:sum(lots)]


def _has_settled(board):
    return count_misplaced(board) == 0


def count_misplaced(board):
    """Return how many low cards lie in heaps; the board has been checked."""
    lots, hands = board
    kept = {card for lot, hand in zip(lots, hands) for card in hand[lot:]}
    return len([card for card in _lowest_cards(board) if card in kept])
