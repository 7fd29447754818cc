import itertools
import unittest

from leastpass.errors import InvalidCount, InvalidPlan
from leastpass.visits import first_visits, first_visits_forever, load_positions
from tests.support import NOT_LISTS, NOT_WHOLE, Watched, raised, raises_first, slow_positions, slow_visits

FUNCTIONS = [load_positions, first_visits, first_visits_forever]
SHIFT = (1, 2, 0)


def small_plans():
    for places, longest in [(1, 3), (2, 4), (3, 3)]:
        rounds = list(itertools.permutations(range(places)))
        for length in range(longest + 1):
            for plan in itertools.product(rounds, repeat=length):
                yield places, list(plan)
    for plan in itertools.product(itertools.permutations(range(4)), repeat=1):
        yield 4, list(plan)
        yield 4, [*plan, (1, 0, 3, 2)]


def large_plans():
    """At the limits of [3] and somewhat beyond."""
    for places in [12, 14]:
        same = tuple(range(places))
        shift = same[1:] + same[:1]
        circles = (1, 2, 0, 4, 5, 6, 3, 8, 9, 10, 11, 7) + same[12:]
        yield places, [shift]
        yield places, [same] * 39 + [shift]
        yield places, [circles] * 40
        yield places, [shift, tuple(reversed(same)), circles] * 13 + [circles]
        yield places, [shift, circles] * 21


def repetitions_until_back(places, plan):
    ends = slow_positions(places, plan)[-1]
    repetitions, positions = 1, ends
    while positions != tuple(range(places)):
        positions = tuple(ends[place] for place in positions)
        repetitions += 1
    return repetitions


class LoadPositions(unittest.TestCase):
    """[40]"""

    def check(self, places, plan, result):
        with self.subTest(places=places, plan=plan):
            found = Watched(self).call(load_positions, places, plan)
            self.assertEqual(repr(found), repr(result))

    def test_example(self):
        self.check(3, [SHIFT], [(0, 1, 2), (1, 2, 0)])

    def test_one_place(self):
        self.check(1, [], [(0,)])
        self.check(1, [(0,), (0,)], [(0,), (0,), (0,)])

    def test_empty_plan(self):
        self.check(4, [], [(0, 1, 2, 3)])

    def test_item_p_is_where_load_p_is(self):
        self.check(3, [SHIFT, (1, 0, 2)], [(0, 1, 2), (1, 2, 0), (0, 2, 1)])
        self.check(3, [(1, 0, 2), SHIFT], [(0, 1, 2), (1, 0, 2), (2, 1, 0)])
        self.check(3, [SHIFT, SHIFT, SHIFT], [(0, 1, 2), (1, 2, 0), (2, 0, 1), (0, 1, 2)])

    def test_places_that_pass_to_themselves(self):
        self.check(3, [(0, 2, 1), (0, 1, 2)], [(0, 1, 2), (0, 2, 1), (0, 2, 1)])

    def test_small_and_large_plans(self):
        for places, plan in [*small_plans(), *large_plans()]:
            self.assertEqual(load_positions(places, plan), slow_positions(places, plan))

    def test_result_does_not_follow_the_plan(self):
        plan = [SHIFT]
        result = load_positions(3, plan)
        plan.append(SHIFT)
        self.assertEqual(result, [(0, 1, 2), (1, 2, 0)])


class FirstVisits(unittest.TestCase):
    """[41] and the definition of a visit in [7]."""

    def check(self, places, plan, result):
        with self.subTest(places=places, plan=plan):
            found = Watched(self).call(first_visits, places, plan)
            self.assertEqual(repr(found), repr(result))

    def test_example(self):
        self.check(3, [SHIFT, SHIFT], [(0, 1, 1), (0, 2, 2), (1, 0, 2), (1, 2, 1), (2, 0, 1), (2, 1, 2)])

    def test_no_visits(self):
        self.check(1, [], [])
        self.check(1, [(0,), (0,)], [])
        self.check(3, [], [])
        self.check(3, [(0, 1, 2)] * 3, [])

    def test_a_load_does_not_visit_its_own_place(self):
        self.check(2, [(1, 0), (1, 0)], [(0, 1, 1), (1, 0, 1)])
        self.check(3, [(0, 2, 1), (0, 2, 1)], [(1, 2, 1), (2, 1, 1)])

    def test_only_the_first_visit_counts(self):
        self.check(2, [(0, 1), (1, 0), (0, 1), (1, 0), (1, 0)], [(0, 1, 2), (1, 0, 2)])

    def test_sorted_by_load_then_place(self):
        self.check(3, [(2, 1, 0), (1, 0, 2)], [(0, 2, 1), (1, 0, 2), (2, 0, 1), (2, 1, 2)])
        self.check(3, [(2, 0, 1), (2, 0, 1)], [(0, 1, 2), (0, 2, 1), (1, 0, 1), (1, 2, 2), (2, 0, 2), (2, 1, 1)])

    def test_small_and_large_plans(self):
        for places, plan in [*small_plans(), *large_plans()]:
            self.assertEqual(first_visits(places, plan), slow_visits(places, plan))


class FirstVisitsForever(unittest.TestCase):
    """[42]"""

    def check(self, places, plan, result):
        with self.subTest(places=places, plan=plan):
            found = Watched(self).call(first_visits_forever, places, plan)
            self.assertEqual(repr(found), repr(result))

    def test_example(self):
        self.check(3, [SHIFT], [(0, 1, 1), (0, 2, 2), (1, 0, 2), (1, 2, 1), (2, 0, 1), (2, 1, 2)])

    def test_no_visits(self):
        self.check(1, [], [])
        self.check(1, [(0,)], [])
        self.check(3, [], [])
        self.check(3, [(0, 1, 2)], [])

    def test_rounds_are_counted_through_all_repetitions(self):
        self.check(2, [(0, 1), (0, 1), (1, 0)], [(0, 1, 3), (1, 0, 3)])
        self.check(3, [(0, 1, 2), SHIFT], [(0, 1, 2), (0, 2, 4), (1, 0, 4), (1, 2, 2), (2, 0, 2), (2, 1, 4)])

    def test_visits_in_the_middle_of_a_repetition(self):
        self.check(3, [SHIFT, (2, 0, 1)], [(0, 1, 1), (1, 2, 1), (2, 0, 1)])
        self.check(3, [SHIFT, (1, 0, 2)], [(0, 1, 1), (1, 0, 3), (1, 2, 1), (2, 0, 1), (2, 1, 2)])

    def test_the_last_place_is_reached_late(self):
        same = tuple(range(12))
        shift = same[1:] + same[:1]
        found = first_visits_forever(12, [same, shift])
        self.assertEqual(len(found), 132)
        self.assertEqual([item for item in found if item[0] == 3 and item[2] > 20], [(3, 2, 22)])

    def test_the_plan_repeated_until_all_loads_are_back(self):
        for places, plan in [*small_plans(), *large_plans()]:
            expected = slow_visits(places, plan * repetitions_until_back(places, plan))
            self.assertEqual(first_visits_forever(places, plan), expected)


class Errors(unittest.TestCase):
    """The errors of [40], [41] and [42]."""

    def test_wrong_number_of_places(self):
        for function in FUNCTIONS:
            for places in NOT_WHOLE + [0, -1, -12]:
                for plan in [[], [(0,)], None]:
                    with self.subTest(function=function.__name__, places=places, plan=plan):
                        self.assertEqual(vars(raised(self, InvalidCount, function, places, plan)), {})

    def test_wrong_plan(self):
        cases = [(value, ("plan",)) for value in NOT_LISTS] + [
            (((1, 0),), ("plan",)),
            ([(0,)], ("round", 0)),
            ([(0, 1, 2)], ("round", 0)),
            ([(1, 0), (1, 1)], ("round", 1)),
            ([(1, 0), (1, 0), (True, 0)], ("round", 2)),
            ([[1, 0]], ("round", 0)),
            ([(1, 2)], ("round", 0)),
            ([None], ("round", 0)),
        ]
        for function in FUNCTIONS:
            for plan, reason in cases:
                with self.subTest(function=function.__name__, plan=plan):
                    error = raised(self, InvalidPlan, function, 2, plan)
                    self.assertEqual(vars(error), {"reason": reason})

    def test_boolean_as_the_only_place(self):
        for function in FUNCTIONS:
            raised(self, InvalidPlan, function, 1, [(False,)])

    def test_order_of_the_errors(self):
        for function in FUNCTIONS:
            raises_first(self, function, [
                (1, [(True, (InvalidCount, {})), (0, (InvalidCount, {})), ("1", (InvalidCount, {}))]),
                ([(0,)], [(((0,),), (InvalidPlan, {"reason": ("plan",)})), ([(1,)], (InvalidPlan, {"reason": ("round", 0)}))]),
            ])

    def test_arguments_by_name(self):
        self.assertEqual(load_positions(plan=[(1, 0)], places=2), [(0, 1), (1, 0)])
        self.assertEqual(first_visits(plan=[(1, 0)], places=2), [(0, 1, 1), (1, 0, 1)])
        self.assertEqual(first_visits_forever(plan=[(1, 0)], places=2), [(0, 1, 1), (1, 0, 1)])
