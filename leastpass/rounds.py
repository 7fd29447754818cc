"""Playing rounds and plans on a board."""

from leastpass.boards import heap_at, load_at, require_board, require_board_and_plan
from leastpass.errors import InvalidRound
from leastpass.kinds import is_round


def play_round(board, permutation):
    """Return the board after one round."""
    require_board(board)
    if not is_round(len(board[0]), permutation):
        raise InvalidRound()
    return board_after_round(board, permutation)


def play(board, plan):
    """Return the board after all rounds of the plan, in order."""
    require_board_and_plan(board, plan)
    return board_after_plan(board, plan)


def board_after_round(board, permutation):
    """Return the board after one round; both arguments have been checked."""
    lots, hands = board
    # All places pass at the same time, so loads and heaps are taken from the old board.
    new_lots = list(lots)
    new_hands = list(hands)
    for giver, taker in enumerate(permutation):
        new_lots[taker] = lots[giver]
        new_hands[taker] = tuple(sorted(heap_at(board, taker) + load_at(board, giver)))
    return (tuple(new_lots), tuple(new_hands))


def board_after_plan(board, plan):
    """Return the board after the plan; both arguments have been checked."""
    for permutation in plan:
        board = board_after_round(board, permutation)
    return board


def boards_through(board, plan):
    """Return the boards after 0 rounds, after 1 round, and so on; both arguments have been checked."""
    found = [board]
    for permutation in plan:
        board = board_after_round(board, permutation)
        found.append(board)
    return found
