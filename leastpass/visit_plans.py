"""Plans whose visits are exactly the given pairs."""

from leastpass.boards import check_plan, require_places
from leastpass.errors import InvalidPairs
from leastpass.kinds import is_form, is_place
from leastpass.visits import first_visits_through


def plan_with_visits(places, pairs):
    """Return a plan whose visits are these pairs, or a closed set that shows that there is none."""
    _require_pairs(places, pairs)
    plan = []
    covered = set()
    for load, place in pairs:
        if (load, place) in covered:
            continue
        before = _ways_from(pairs, place)
        if load not in before:
            return ("none", load, place, sorted(before))
        circle = _steps_to(before, load) + [(load, place)]
        for step in circle:
            covered.add(step)
        # The loads go one step and then home, where the next circle finds them.
        plan.append(_round_of_steps(places, circle))
        plan.append(_round_of_steps(places, [(target, start) for start, target in circle]))
    return ("plan", plan)


def check_visit_plan(places, pairs, claim):
    """Return None for a valid result of plan_with_visits, otherwise the first fault."""
    _require_pairs(places, pairs)
    if is_form(claim, "plan", 2) and check_plan(places, claim[1]) is None:
        return _plan_fault(places, pairs, claim[1])
    if _is_none_claim(places, claim):
        _, load, place, closed = claim
        return _closed_fault(pairs, load, place, closed)
    return ("form",)


def _require_pairs(places, pairs):
    require_places(places)
    if not isinstance(pairs, list):
        raise InvalidPairs()
    seen = set()
    for pair in pairs:
        # Only what is surely a pair of numbers is looked up.
        if not _is_pair(places, pair) or pair in seen:
            raise InvalidPairs()
        seen.add(pair)


def _is_pair(places, value):
    if not isinstance(value, tuple) or len(value) != 2:
        return False
    load, place = value
    return is_place(places, load) and is_place(places, place) and load != place


def _is_none_claim(places, claim):
    if not is_form(claim, "none", 4):
        return False
    _, load, place, closed = claim
    if not is_place(places, load) or not is_place(places, place) or not isinstance(closed, list):
        return False
    # A place is 0 or more, so -1 lets every first place pass.
    last = -1
    for member in closed:
        if not is_place(places, member) or member <= last:
            return False
        last = member
    return True


def _plan_fault(places, pairs, plan):
    visited = [(load, place) for load, place, _ in first_visits_through(places, plan)]
    for load, place in visited:
        if (load, place) not in pairs:
            return ("extra", load, place)
    for load, place in sorted(pairs):
        if (load, place) not in visited:
            return ("lacking", load, place)
    return None


def _closed_fault(pairs, load, place, closed):
    if (load, place) not in pairs:
        return ("pair",)
    if load in closed or place not in closed:
        return ("set",)
    for start, target in sorted(pairs):
        if start in closed and target not in closed:
            return ("exit", start, target)
    return None


def _round_of_steps(places, steps):
    permutation = list(range(places))
    for start, target in steps:
        permutation[start] = target
    return tuple(permutation)


def _ways_from(pairs, start):
    """Return each place that the pairs lead to from the start, with the place before it."""
    before = {start: None}
    border = [start]
    while border:
        steps = [(source, target) for source, target in pairs if source in border and target not in before]
        before.update({target: source for source, target in steps})
        border = [target for _, target in steps]
    return before


def _steps_to(before, end):
    """Return the steps of a shortest way to the end, the last one first."""
    steps = []
    while before[end] is not None:
        steps.append((before[end], end))
        end = before[end]
    return steps
