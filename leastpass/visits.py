"""Where the loads are during a plan, and which places they visit."""

from leastpass.boards import require_plan


def load_positions(places, plan):
    """Return the places of all loads after 0 rounds, after 1 round, and so on."""
    require_plan(places, plan)
    return positions_through(places, plan)


def first_visits(places, plan):
    """Return each visit of a load to a place, with the round count of the first one."""
    require_plan(places, plan)
    return first_visits_through(places, plan)


def first_visits_forever(places, plan):
    """Return the first visits for the plan repeated without end."""
    require_plan(places, plan)
    return first_visits_through(places, plan_with_all_visits(places, plan))


def positions_through(places, plan):
    """Return the places of all loads after each round; the plan has been checked."""
    positions = tuple(range(places))
    found = [positions]
    for permutation in plan:
        positions = tuple([permutation[place] for place in positions])
        found.append(positions)
    return found


def plan_with_all_visits(places, plan):
    """Return the plan repeated until no load can visit a place that is new to it.

    The plan has been checked.
    """
    # The plan as a whole permutes the places, so a load is back at its own
    # start after at most as many repetitions as there are places.
    return plan * places


def first_visits_through(places, plan):
    """Return the sorted first visits of the plan, which has been checked."""
    times = {}
    for time, positions in enumerate(positions_through(places, plan)):
        for load, place in enumerate(positions):
            if place != load and (load, place) not in times:
                times[(load, place)] = time
    return [(load, place, times[(load, place)]) for load, place in sorted(times)]
