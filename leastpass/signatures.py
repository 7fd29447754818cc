"""Whether two plans give the same result for every board of given sizes."""

from leastpass.boards import check_board, require_plan, require_sizes_and_plan, sizes_of
from leastpass.kinds import is_form
from leastpass.meetings import meetings_in_order
from leastpass.rounds import board_after_plan
from leastpass.visits import positions_through
from leastpass.witnesses import deal_with_middle


def plan_signature(sizes, plan):
    """Return where the loads end, which places they meet, and which loads the places meet."""
    require_sizes_and_plan(sizes, plan)
    return _signature(sizes, plan)


def compare_plans(sizes, first, second):
    """Tell whether two plans always give the same result; if not, return a board that shows it."""
    _require_two_plans(sizes, first, second)
    one = _signature(sizes, first)
    other = _signature(sizes, second)
    if one == other:
        return ("same",)
    return ("different", deal_with_middle(sizes, _telling_cards(one, other)))


def check_comparison(sizes, first, second, claim):
    """Return None for a valid result of compare_plans, otherwise the first fault."""
    _require_two_plans(sizes, first, second)
    if is_form(claim, "same", 1):
        same = _signature(sizes, first) == _signature(sizes, second)
        return None if same else ("signature",)
    if not is_form(claim, "different", 2) or check_board(claim[1]) is not None:
        return ("form",)
    board = claim[1]
    if sizes_of(board) != sizes:
        return ("sizes",)
    if board_after_plan(board, first) == board_after_plan(board, second):
        return ("result",)
    return None


def _require_two_plans(sizes, first, second):
    require_sizes_and_plan(sizes, first)
    require_plan(len(sizes[0]), second)


def _signature(sizes, plan):
    lots, bases = sizes
    ends = positions_through(len(lots), plan)[-1]
    meetings = meetings_in_order(sizes, plan)
    loads = [load for load, lot in enumerate(lots) if lot > 0]
    heaps = [place for place, base in enumerate(bases) if base > 0]
    visits = [(load, [place for _, met, place in meetings if met == load]) for load in loads]
    visitors = [(heap, [load for _, load, place in meetings if place == heap]) for heap in heaps]
    return ([(load, ends[load]) for load in loads], visits, visitors)


def _telling_cards(one, other):
    """Return the cards in the middle of a board on which two different signatures show."""
    ends, visits, visitors = one
    other_ends, other_visits, other_visitors = other
    if ends != other_ends:
        # With all loads below all heaps, the loads arrive as they are, at other places.
        return []
    changed = _changed_rows(visits, other_visits)
    if changed:
        load, places, other_places = changed[0]
        return _cards_for_load(load, places, other_places)
    place, loads, other_loads = _changed_rows(visitors, other_visitors)[0]
    earlier, later = _first_difference(loads, other_loads)
    # The low card of the place leaves it with the load that meets it first.
    return [("heap", place), ("load", earlier), ("load", later)]


def _changed_rows(rows, others):
    pairs = zip(rows, others)
    return [(name, items, other_items) for (name, items), (_, other_items) in pairs if items != other_items]


def _cards_for_load(load, places, other_places):
    alone = [place for place in places + other_places if place not in places or place not in other_places]
    if alone:
        # The load exchanges a card with this place in one plan and with no place in the other.
        return [("heap", alone[0]), ("load", load)]
    earlier, later = _first_difference(places, other_places)
    # The high card of the load stays at the place that the load meets first.
    return [("heap", earlier), ("heap", later), ("load", load)]


def _first_difference(items, others):
    """Return the first items that differ; each of them comes later in the other list."""
    at = 0
    while items[at] == others[at]:
        at += 1
    return (items[at], others[at])
