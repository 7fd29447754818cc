"""Following cards through a plan that is played once, often or without end."""

from leastpass.boards import require_board_and_plan
from leastpass.errors import InvalidCard, InvalidRepeats
from leastpass.kinds import is_natural, is_whole
from leastpass.rounds import board_after_round, boards_through
from leastpass.visits import plan_with_all_visits, positions_through


def track_card(board, plan, card):
    """Return where the card lies after 0 rounds, after 1 round, and so on."""
    require_board_and_plan(board, plan)
    _require_card(board, card)
    return [_location(reached, card) for reached in boards_through(board, plan)]


def play_repeated(board, plan, repeats):
    """Return the board after that many repetitions of the plan."""
    require_board_and_plan(board, plan)
    _require_repeats(repeats)
    return _board_after_repeats(board, plan, repeats)


def locate_card(board, plan, card, repeats):
    """Return where the card lies after that many repetitions of the plan."""
    require_board_and_plan(board, plan)
    _require_card(board, card)
    _require_repeats(repeats)
    return _location(_board_after_repeats(board, plan, repeats), card)


def final_locations(board, plan):
    """Return for each card the heap or load that it finally belongs to, and since when."""
    require_board_and_plan(board, plan)
    places = len(board[0])
    # Only a load at a place that is new to it changes, so later rounds change no owner.
    rounds = plan_with_all_visits(places, plan)
    positions = positions_through(places, rounds)
    last = {}
    for time, reached in enumerate(boards_through(board, rounds)):
        for card, owner in _owners(reached, positions[time]):
            if card not in last or last[card][0] != owner:
                last[card] = (owner, time)
    found = [(card, last[card]) for card in sorted(last)]
    return [(card, kind, place, since) for card, ((kind, place), since) in found]


def _require_card(board, card):
    # An equal value of another kind is no card, so the kind is asked for first.
    if not is_whole(card) or _location(board, card) is None:
        raise InvalidCard(card)


def _require_repeats(repeats):
    if not is_natural(repeats):
        raise InvalidRepeats()


def _location(board, card):
    lots, hands = board
    for place, hand in enumerate(hands):
        if card in hand:
            kind = "load" if card in hand[:lots[place]] else "heap"
            return (kind, place)
    return None


def _owners(board, positions):
    lots, hands = board
    owners = []
    for start, place in enumerate(positions):
        lot = lots[place]
        owners.extend([(card, ("load", start)) for card in hands[place][:lot]])
        owners.extend([(card, ("heap", place)) for card in hands[place][lot:]])
    return owners


def _board_after_repeats(board, plan, repeats):
    places = len(board[0])
    played = min(repeats, places)
    for permutation in plan * played:
        board = board_after_round(board, permutation)
    # After as many repetitions as places, every load has been wherever it gets.
    # It then travels unchanged, so one round can take it to its last place.
    ends = positions_through(places, plan)[-1]
    return board_after_round(board, _repeated(ends, repeats - played))


def _repeated(permutation, times):
    ends = []
    for start in range(len(permutation)):
        circle = [start]
        while permutation[circle[-1]] != start:
            circle.append(permutation[circle[-1]])
        ends.append(circle[times % len(circle)])
    return tuple(ends)
