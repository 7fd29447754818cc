"""Whether a plan settles every board of given sizes, and how much it can leave misplaced."""

from leastpass.boards import check_board, heap_at, load_at, require_sizes_and_plan, sizes_of
from leastpass.kinds import is_form, is_natural, is_place
from leastpass.meetings import meetings_in_order, missed_pairs
from leastpass.rounds import board_after_plan
from leastpass.settling import count_misplaced
from leastpass.visits import plan_with_all_visits, positions_through
from leastpass.witnesses import deal_against_meeting, deal_with_middle


def missed_visits(sizes, plan):
    """Return the required pairs that the plan misses, in ascending order."""
    require_sizes_and_plan(sizes, plan)
    return missed_pairs(sizes, plan)


def judge_fairness(sizes, plan):
    """Tell whether the plan is fair; if not, name a missed pair and a board that shows it."""
    require_sizes_and_plan(sizes, plan)
    missed = missed_pairs(sizes, plan)
    if not missed:
        return ("fair",)
    load, place = missed[0]
    return ("unfair", load, place, deal_against_meeting(sizes, load, place))


def check_fairness(sizes, plan, claim):
    """Return None for a valid result of judge_fairness, otherwise the first fault."""
    require_sizes_and_plan(sizes, plan)
    missed = missed_pairs(sizes, plan)
    if is_form(claim, "fair", 1):
        return ("missed",) + missed[0] if missed else None
    if not _is_unfair_claim(len(sizes[0]), claim):
        return ("form",)
    _, load, place, board = claim
    if (load, place) not in missed:
        return ("missed", load, place)
    if sizes_of(board) != sizes:
        return ("sizes",)
    if not _has_higher_load(board, plan, load, place):
        return ("order",)
    return None


def repeats_until_fair(sizes, plan):
    """Return the smallest number of repetitions after which the plan is fair, or None."""
    require_sizes_and_plan(sizes, plan)
    rounds = plan_with_all_visits(len(sizes[0]), plan)
    if missed_pairs(sizes, rounds):
        return None
    last = _last_meeting_time(sizes, rounds)
    if last == 0:
        return 0
    # A repetition that has begun is counted as a whole.
    return (last + len(plan) - 1) // len(plan)


def worst_misplacement(sizes, plan):
    """Return the largest number of cards misplaced after the plan, and a board that reaches it."""
    require_sizes_and_plan(sizes, plan)
    worst = 0
    middle = []
    for loads, places in _missed_blocks(sizes, plan):
        number = _block_number(sizes, loads, places)
        if number > worst:
            worst = number
            middle = _block_cards(sizes, loads, places)
    return (worst, deal_with_middle(sizes, middle))


def check_misplacement(sizes, plan, claim):
    """Return None for a valid result of worst_misplacement, otherwise the first fault."""
    require_sizes_and_plan(sizes, plan)
    if not _is_misplacement_claim(claim):
        return ("form",)
    number, board = claim
    if sizes_of(board) != sizes:
        return ("sizes",)
    if count_misplaced(board_after_plan(board, plan)) != number:
        return ("number",)
    for loads, places in _missed_blocks(sizes, plan):
        if _block_number(sizes, loads, places) > number:
            return ("more", loads, places)
    return None


def settling_time(sizes, plan):
    """Return after how many rounds every board is settled, and a board that needs them all."""
    require_sizes_and_plan(sizes, plan)
    missed = missed_pairs(sizes, plan)
    if missed:
        return ("unfair",) + missed[0]
    meetings = meetings_in_order(sizes, plan)
    if not meetings:
        return ("time", 0, None)
    time, load, place = meetings[-1]
    return ("time", time, deal_against_meeting(sizes, load, place))


def _is_unfair_claim(places, claim):
    if not is_form(claim, "unfair", 4):
        return False
    _, load, place, board = claim
    return is_place(places, load) and is_place(places, place) and check_board(board) is None


def _is_misplacement_claim(claim):
    if not isinstance(claim, tuple) or len(claim) != 2:
        return False
    number, board = claim
    return is_natural(number) and check_board(board) is None


def _has_higher_load(board, plan, load, place):
    end = positions_through(len(board[0]), plan)[-1][load]
    played = board_after_plan(board, plan)
    # The pair is required, so neither the load nor the heap is empty.
    return load_at(played, end)[-1] > heap_at(played, place)[0]


def _last_meeting_time(sizes, plan):
    meetings = meetings_in_order(sizes, plan)
    return meetings[-1][0] if meetings else 0


def _missed_blocks(sizes, plan):
    """Return all sets of loads, in Python's order, with the places that all of them miss.

    Sets without a place that all of their loads miss are left out.
    """
    places = range(len(sizes[0]))
    targets = [[] for _ in places]
    for load, place in missed_pairs(sizes, plan):
        targets[load].append(place)
    found = []
    for load in places:
        _add_blocks(found, targets, (load,), tuple(targets[load]))
    return found


def _add_blocks(found, targets, loads, places):
    # A larger set of loads misses fewer places together, so nothing is left to find.
    if not places:
        return
    found.append((loads, places))
    for load in range(loads[-1] + 1, len(targets)):
        shared = tuple([place for place in places if place in targets[load]])
        _add_blocks(found, targets, loads + (load,), shared)


def _block_number(sizes, loads, places):
    lots, bases = sizes
    return min(sum([lots[load] for load in loads]), sum([bases[place] for place in places]))


def _block_cards(sizes, loads, places):
    lots, bases = sizes
    low = [("heap", place) for place in places for _ in range(bases[place])]
    high = [("load", load) for load in loads for _ in range(lots[load])]
    return low + high
