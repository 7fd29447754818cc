"""Boards from which a plan leads to a given board."""

from math import lcm

from leastpass.boards import check_board, heap_at, load_at, require_board_and_plan
from leastpass.errors import InvalidPlan
from leastpass.kinds import is_form, is_natural, is_place, is_whole
from leastpass.rounds import board_after_plan, board_after_round
from leastpass.visits import first_visits_through, plan_with_all_visits, positions_through


def send_home(board, plan):
    """Return the board with the load of every place moved back from its final place."""
    require_board_and_plan(board, plan)
    return board_sent_home(board, plan)


def find_source(board, plan):
    """Return a board that the plan turns into this one, or two cards that show that there is none."""
    require_board_and_plan(board, plan)
    places = len(board[0])
    ends = positions_through(places, plan)[-1]
    for load, place, time in _stays_through(places, plan):
        cards = load_at(board, ends[load])
        heap = heap_at(board, place)
        if _has_higher(cards, heap):
            return ("none", load, place, time, cards[-1], heap[0])
    return ("source", board_sent_home(board, plan))


def check_source(board, plan, claim):
    """Return None for a valid result of find_source, otherwise the first fault."""
    require_board_and_plan(board, plan)
    places = len(board[0])
    if _is_source_claim(places, claim):
        return None if board_after_plan(claim[1], plan) == board else ("result",)
    if not _is_none_claim(places, len(plan), claim):
        return ("form",)
    _, load, place, time, high, low = claim
    positions = positions_through(places, plan)
    if positions[time][load] != place:
        return ("position",)
    if high not in load_at(board, positions[-1][load]) or low not in heap_at(board, place) or high <= low:
        return ("cards",)
    return None


def return_time(board, plan):
    """Return after how many repetitions of the plan the board is the same again, or None."""
    require_board_and_plan(board, plan)
    if not plan:
        raise InvalidPlan(("empty",))
    places = len(board[0])
    # A heap that has changed once has got higher cards and never gets the old ones back.
    for load, place, _ in first_visits_through(places, plan_with_all_visits(places, plan)):
        if _has_higher(load_at(board, load), heap_at(board, place)):
            return None
    ends = positions_through(places, plan)[-1]
    repeats = 1
    for load, lot in enumerate(board[0]):
        # Loads without cards cannot be told apart, so they may be anywhere.
        if lot > 0:
            repeats = lcm(repeats, _circle_length(ends, load))
    return repeats


def board_sent_home(board, plan):
    """Return the board with its loads sent home; both arguments have been checked."""
    ends = positions_through(len(board[0]), plan)[-1]
    homes = list(ends)
    for load, place in enumerate(ends):
        homes[place] = load
    return board_after_round(board, tuple(homes))


def _stays_through(places, plan):
    """Return (load, place, time) for the first time of each load at each place, its own included."""
    return [(place, place, 0) for place in range(places)] + first_visits_through(places, plan)


def _has_higher(load, heap):
    return len(load) > 0 and len(heap) > 0 and load[-1] > heap[0]


def _circle_length(ends, start):
    place = ends[start]
    length = 1
    while place != start:
        place = ends[place]
        length += 1
    return length


def _is_source_claim(places, claim):
    if not is_form(claim, "source", 2) or check_board(claim[1]) is not None:
        return False
    return len(claim[1][0]) == places


def _is_none_claim(places, rounds, claim):
    if not is_form(claim, "none", 6):
        return False
    _, load, place, time, high, low = claim
    if not is_place(places, load) or not is_place(places, place):
        return False
    return is_natural(time) and time <= rounds and is_whole(high) and is_whole(low)
