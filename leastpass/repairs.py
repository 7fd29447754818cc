"""The fewest rounds that make a plan fair."""

from leastpass.boards import check_plan, require_sizes, require_sizes_and_plan
from leastpass.kinds import is_form, is_place
from leastpass.meetings import missed_pairs, required_pairs
from leastpass.visits import positions_through


def repair_plan(sizes, plan):
    """Return the fewest rounds that repair the plan, and a load or place that needs them all."""
    require_sizes_and_plan(sizes, plan)
    places = len(sizes[0])
    missed = missed_pairs(sizes, plan)
    reasons = _reasons(places, missed)
    number = _largest_count(reasons)
    if number == 0:
        return ([], None)
    positions = positions_through(places, plan)[-1]
    rounds = []
    for targets in _split_into_matchings(places, missed, number):
        reached = _completed(targets)
        rounds.append(_round_between(positions, reached))
        positions = reached
    return (rounds, [reason for reason, count in reasons if count == number][0])


def check_repair(sizes, plan, claim):
    """Return None for a valid result of repair_plan, otherwise the first fault."""
    require_sizes_and_plan(sizes, plan)
    places = len(sizes[0])
    if not _is_repair_claim(places, claim):
        return ("form",)
    rounds, reason = claim
    missed = missed_pairs(sizes, plan + rounds)
    if missed:
        return ("missed",) + missed[0]
    if not _is_reason_for(len(rounds), reason, _reasons(places, missed_pairs(sizes, plan))):
        return ("reason",)
    return None


def fewest_rounds(sizes):
    """Return the smallest number of rounds of a plan that is fair for these sizes."""
    require_sizes(sizes)
    return _largest_count(_reasons(len(sizes[0]), required_pairs(sizes)))


def _is_repair_claim(places, claim):
    if not isinstance(claim, tuple) or len(claim) != 2:
        return False
    rounds, reason = claim
    if check_plan(places, rounds) is not None:
        return False
    if reason is None:
        return True
    return (is_form(reason, "from", 2) or is_form(reason, "to", 2)) and is_place(places, reason[1])


def _is_reason_for(number, reason, reasons):
    if reason is None:
        return number == 0
    return number > 0 and (reason, number) in reasons


def _reasons(places, pairs):
    """Return each load and each place with the number of pairs that it is in."""
    loads = [load for load, _ in pairs]
    targets = [target for _, target in pairs]
    found = [(("from", place), loads.count(place)) for place in range(places)]
    return found + [(("to", place), targets.count(place)) for place in range(places)]


def _largest_count(reasons):
    return max([count for _, count in reasons])


def _split_into_matchings(places, pairs, number):
    """Split the pairs so that each part has every load and every place at most once.

    Return for each part the place of each load, or None. As no load and no
    place is in more pairs than there are parts, this is always possible.
    """
    target_of = [[None] * places for _ in range(number)]
    load_of = [[None] * places for _ in range(number)]
    for load, place in pairs:
        part = _part_without(target_of, load)
        other = _part_without(load_of, place)
        if part != other:
            _free_place(target_of, load_of, part, other, place)
        target_of[part][load] = place
        load_of[part][place] = load
    return target_of


def _part_without(rows, at):
    return [row[at] for row in rows].index(None)


def _free_place(target_of, load_of, part, other, place):
    """Exchange two parts along the chain of pairs from a place, so that the first part lacks it."""
    chain = []
    while load_of[part][place] is not None:
        load = load_of[part][place]
        chain.append((part, other, load, place))
        place = target_of[other][load]
        if place is None:
            break
        chain.append((other, part, load, place))
    # All pairs are taken out before one is put back, as neighbours share a load or a place.
    for old, _, load, target in chain:
        target_of[old][load] = None
        load_of[old][target] = None
    for _, new, load, target in chain:
        target_of[new][load] = target
        load_of[new][target] = load


def _completed(targets):
    """Give the loads without a place the places that are left."""
    left = [place for place in range(len(targets)) if place not in targets]
    reached = []
    for target in targets:
        reached.append(left.pop(0) if target is None else target)
    return tuple(reached)


def _round_between(positions, reached):
    permutation = list(positions)
    for place, target in zip(positions, reached):
        permutation[place] = target
    return tuple(permutation)
