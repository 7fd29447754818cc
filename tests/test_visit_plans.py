import itertools
import unittest

from leastpass.errors import InvalidCount, InvalidPairs
from leastpass.fairness import missed_visits
from leastpass.visit_plans import check_visit_plan, plan_with_visits
from leastpass.visits import first_visits, first_visits_forever, load_positions
from tests.support import (
    ANY_VALUES, NOT_LISTS, NOT_NATURAL, NOT_WHOLE, Watched, all_plans, check_claims, is_place_of, is_plan_of, raised,
    raises_first, slow_visits,
)

SHIFT = (1, 2, 0)
CIRCLE = [(0, 1), (1, 2), (2, 0)]


def slow_pairs(places, plan):
    return [(load, place) for load, place, _ in slow_visits(places, plan)]


def slow_check_visit_plan(places, pairs, claim):
    """The list of faults in [61], one after the other."""
    if type(claim) is not tuple or not claim:
        return ("form",)
    if claim[0] == "plan" and len(claim) == 2 and is_plan_of(places, claim[1]):
        visited = slow_pairs(places, claim[1])
        extra = sorted(set(visited) - set(pairs))
        lacking = sorted(set(pairs) - set(visited))
        if extra:
            return ("extra", *extra[0])
        return ("lacking", *lacking[0]) if lacking else None
    if claim[0] != "none" or len(claim) != 4:
        return ("form",)
    _, load, place, closed = claim
    if not is_place_of(places, load) or not is_place_of(places, place) or type(closed) is not list:
        return ("form",)
    if not all(is_place_of(places, item) for item in closed) or sorted(set(closed)) != closed:
        return ("form",)
    if (load, place) not in pairs:
        return ("pair",)
    if load in closed or place not in closed:
        return ("set",)
    exits = sorted(pair for pair in pairs if pair[0] in closed and pair[1] not in closed)
    return ("exit", *exits[0]) if exits else None


def all_pair_lists(places):
    """Yield every set of pairs of different places, as a sorted list."""
    pairs = list(itertools.permutations(range(places), 2))
    for count in range(len(pairs) + 1):
        for chosen in itertools.combinations(pairs, count):
            yield list(chosen)


def large_lists():
    """Yield numbers of places and pairs at the limits of [3] and somewhat beyond, with and without a plan."""
    for places in [12, 14]:
        everything = list(itertools.permutations(range(places), 2))
        circle = [(place, (place + 1) % places) for place in range(places)]
        groups = [pair for pair in everything if pair[0] % 3 == pair[1] % 3]
        upward = [pair for pair in everything if pair[0] < pair[1]]
        yield places, everything
        yield places, everything[::-1]
        yield places, circle
        yield places, circle[::-1] + [pair for pair in upward if pair not in circle][::7]
        yield places, groups
        yield places, upward
        yield places, groups + [(0, 1)]
        yield places, circle[:-1]
        yield places, []


class PlanWithVisits(unittest.TestCase):
    """[60]"""

    def check(self, places, pairs):
        found = plan_with_visits(places, pairs)
        if found[0] == "plan":
            word, plan = found
            self.assertTrue(is_plan_of(places, plan))
            self.assertLessEqual(len(plan), 2 * len(pairs))
            self.assertEqual(slow_pairs(places, plan), sorted(pairs))
        else:
            word, load, place, closed = found
            self.assertEqual(word, "none")
            self.assertIn((load, place), pairs)
            self.assertIs(type(closed), list)
            self.assertEqual(closed, sorted(set(closed)))
            self.assertIn(place, closed)
            self.assertNotIn(load, closed)
            self.assertEqual([pair for pair in pairs if pair[0] in closed and pair[1] not in closed], [])
        self.assertIsNone(check_visit_plan(places, pairs, found))
        return found[0]

    def test_example(self):
        self.assertEqual(plan_with_visits(2, [(0, 1)]), ("none", 0, 1, [1]))

    def test_ordinary(self):
        for places, pairs, word in [
            (2, [(0, 1), (1, 0)], "plan"), (3, CIRCLE, "plan"), (3, CIRCLE[::-1], "plan"), (3, CIRCLE + [(1, 0)], "plan"),
            (3, [(0, 1), (1, 0), (1, 2)], "none"), (3, [(0, 1), (1, 0), (2, 0)], "none"), (4, CIRCLE + [(3, 0)], "none"),
            (5, [(0, 3), (3, 0), (2, 4), (4, 2)], "plan"), (5, [(0, 3), (3, 0), (2, 4), (4, 2), (0, 4)], "none"),
        ]:
            with self.subTest(places=places, pairs=pairs):
                self.assertEqual(self.check(places, pairs), word)
                Watched(self).call(plan_with_visits, places, pairs)

    def test_no_pairs(self):
        for places in [1, 2, 12]:
            self.assertEqual(Watched(self).call(plan_with_visits, places, []), ("plan", []))

    def test_all_small_lists(self):
        for places in [1, 2, 3]:
            found = {tuple(sorted(slow_pairs(places, plan))) for plan in all_plans(places, 4)}
            for pairs in all_pair_lists(places):
                self.assertEqual(self.check(places, pairs), "plan" if tuple(pairs) in found else "none")
                self.check(places, pairs[::-1])
        for pairs in list(all_pair_lists(4))[::7]:
            self.check(4, pairs)

    def test_limits(self):
        for places, pairs in large_lists():
            self.check(places, pairs)

    def test_results_may_be_passed_on(self):
        pairs = list(itertools.permutations(range(12), 2))
        _, plan = plan_with_visits(12, pairs)
        self.assertGreater(len(plan), 40)
        self.assertEqual([item[:2] for item in first_visits(12, plan)], pairs)
        self.assertEqual([item[:2] for item in first_visits_forever(12, plan)], pairs)
        self.assertEqual(len(load_positions(12, plan)), len(plan) + 1)
        self.assertEqual(missed_visits(((24,) * 12, (24,) * 12), plan), [])

    def test_result_does_not_follow_the_pairs(self):
        pairs = [(0, 1)]
        result = plan_with_visits(2, pairs)
        pairs.append((1, 0))
        self.assertEqual(result, ("none", 0, 1, [1]))


class CheckVisitPlan(unittest.TestCase):
    """[61]"""

    def check(self, places, pairs, claim, fault):
        with self.subTest(places=places, pairs=pairs, claim=claim):
            self.assertEqual(repr(Watched(self).call(check_visit_plan, places, pairs, claim)), repr(fault))

    def test_example(self):
        self.check(2, [(0, 1), (1, 0)], ("plan", []), ("lacking", 0, 1))

    def test_form(self):
        for claim in [
            None, "plan", ("plan",), ("plan", []) + ([],), ["plan", []], ("plan", ()), ("plan", ((1, 0),)), ("plan", [(0,)]),
            ("plan", [(1, 1)]), ("plan", [(True, 0)]), ("none", 0, 1), ("none", 0, 1, [1], 2), ("none", 0, 2, [1]),
            ("none", -1, 1, [1]), ("none", False, 1, [1]), ("none", 0, True, [1]), ("none", 0, 1, (1,)), ("none", 0, 1, [1, 1]),
            ("none", 0, 1, [1, 0]), ("none", 0, 1, [2]), ("none", 0, 1, [-1]), ("none", 0, 1, [True]), ("none", 0, 1, None),
            ("none", 0, 1, [0, True]), ("none", 0, 1, ["1"]), ("no", 0, 1, [1]), ["none", 0, 1, [1]], ("none", []), ("plan", 0, 1, [1]),
        ]:
            self.check(2, [(0, 1)], claim, ("form",))

    def test_plans(self):
        self.check(2, [], ("plan", []), None)
        self.check(2, [(0, 1), (1, 0)], ("plan", [(1, 0)]), None)
        self.check(2, [(1, 0), (0, 1)], ("plan", [(1, 0)] * 40), None)
        self.check(3, CIRCLE, ("plan", [SHIFT]), None)
        self.check(3, CIRCLE, ("plan", [SHIFT, SHIFT]), ("extra", 0, 2))
        self.check(3, CIRCLE[::-1], ("plan", [(0, 1, 2)]), ("lacking", 0, 1))
        self.check(3, CIRCLE, ("plan", [(0, 2, 1)]), ("extra", 2, 1))
        self.check(3, [(2, 1)], ("plan", [(0, 2, 1)]), ("extra", 1, 2))
        self.check(3, [(2, 1), (1, 2), (2, 0), (1, 0)], ("plan", [(0, 2, 1)]), ("lacking", 1, 0))
        self.check(1, [], ("plan", [(0,)] * 3), None)

    def test_closed_sets(self):
        self.check(2, [(0, 1)], ("none", 0, 1, [1]), None)
        self.check(2, [(0, 1)], ("none", 1, 0, [1]), ("pair",))
        self.check(2, [(0, 1)], ("none", 0, 0, [1]), ("pair",))
        self.check(2, [], ("none", 0, 1, [1]), ("pair",))
        self.check(2, [(0, 1)], ("none", 0, 1, []), ("set",))
        self.check(2, [(0, 1)], ("none", 0, 1, [0, 1]), ("set",))
        self.check(2, [(0, 1)], ("none", 0, 1, [0]), ("set",))
        self.check(2, [(0, 1), (1, 0)], ("none", 0, 1, [1]), ("exit", 1, 0))
        self.check(3, [(0, 1), (1, 2)], ("none", 0, 1, [1, 2]), None)
        self.check(3, [(0, 1), (1, 2)], ("none", 0, 1, [1]), ("exit", 1, 2))
        self.check(3, [(0, 1), (1, 2)], ("none", 1, 2, [2]), None)
        self.check(4, [(0, 1), (3, 0), (1, 2), (1, 0), (3, 2)], ("none", 0, 1, [1, 3]), ("exit", 1, 0))

    def test_several_faults_at_once(self):
        self.check(3, CIRCLE, ("plan", [(2, 0, 1)]), ("extra", 0, 2))
        self.check(3, CIRCLE, ("none", 0, 2, [0]), ("pair",))
        self.check(3, CIRCLE, ("none", 0, 1, [0]), ("set",))
        self.check(3, CIRCLE, ("none", 0, 3, [0]), ("form",))
        self.check(3, CIRCLE, ("none", 0, 0, [2, 1]), ("form",))

    def test_any_claim(self):
        lists = [(2, [(0, 1)]), (2, [(0, 1), (1, 0)]), (3, CIRCLE), (3, [(0, 1), (1, 2)]), (3, []), (1, [])]
        for places, pairs in lists:
            claims = [plan_with_visits(places, pairs), ("plan", [tuple(range(places))]), ("none", 0, 0, [0])]
            if places > 1:
                claims += [("none", 0, 1, [1]), ("none", 0, 1, [1, 2]), ("none", 1, 0, [])]
            faults = check_claims(self, check_visit_plan, slow_check_visit_plan, (places, pairs), claims)
            self.assertIn("form", faults)
        faults = check_claims(self, check_visit_plan, slow_check_visit_plan, (3, CIRCLE), [("none", 0, 1, [1])])
        self.assertEqual(faults, {"form", "pair", "set", "exit"})

    def test_all_small_claims(self):
        claims = [("plan", plan) for plan in all_plans(3, 2)]
        closed = [list(chosen) for count in range(4) for chosen in itertools.combinations(range(3), count)]
        claims += [("none", load, place, chosen) for load in range(3) for place in range(3) for chosen in closed]
        for pairs in all_pair_lists(3):
            for claim in claims:
                self.assertEqual(check_visit_plan(3, pairs, claim), slow_check_visit_plan(3, pairs, claim))

    def test_result_of_its_function_changed_in_one_item(self):
        _, plan = plan_with_visits(3, CIRCLE)
        self.check(3, CIRCLE, ("plan", plan), None)
        self.check(3, CIRCLE, ("plan", plan[:-1] + [(1, 2, 0)]), ("extra", 0, 2))
        self.check(3, CIRCLE, ("plan", plan + [(1, 0, 2)]), ("extra", 1, 0))
        self.check(3, CIRCLE + [(0, 2)], ("plan", plan), ("lacking", 0, 2))
        pairs = [(0, 1), (1, 2), (2, 1)]
        word, load, place, closed = plan_with_visits(3, pairs)
        self.check(3, pairs, (word, load, place, closed), None)
        self.assertEqual((load, place, closed), (0, 1, [1, 2]))
        self.check(3, pairs, (word, 1, place, closed), ("pair",))
        self.check(3, pairs, (word, load, 2, closed), ("pair",))
        self.check(3, pairs, (word, load, place, [1]), ("exit", 1, 2))
        self.check(3, pairs, (word, load, place, [2]), ("set",))
        self.check(3, pairs, (word, load, place, [0, 1, 2]), ("set",))

    def test_limits(self):
        for places, pairs in large_lists():
            found = plan_with_visits(places, pairs)
            self.assertIsNone(check_visit_plan(places, pairs, found))
            if found[0] == "plan" and pairs:
                self.assertEqual(check_visit_plan(places, pairs[1:], found), ("extra", *pairs[0]))
                self.assertEqual(check_visit_plan(places, pairs, ("plan", [])), ("lacking", *min(pairs)))


class Errors(unittest.TestCase):
    """The errors of [60] and [61]."""

    CALLS = [(plan_with_visits, ())] + [(check_visit_plan, (claim,)) for claim in [("plan", []), None, {}, ("none", 0)]]
    BAD_PAIRS = [
        [(0, 0)], [(0, 1), (0, 1)], [(0, 1), (1, 0), (0, 1)], [(0, 2)], [(-1, 0)], [(2, 0)], [[0, 1]], [(0, 1, 1)], [(0,)], [()],
        [(True, 0)], [(1, False)], [(0, 1.0)], [("0", 1)], [None], [(0, None)], [([0], 1)], [({}, 1)], [(0, 1), None], [(0, 1), (1, 1)],
        ((0, 1),), {(0, 1): 1}, "01", [{0: 1}], [0, 1], [(10 ** 30, 0)],
    ]

    def test_wrong_number_of_places(self):
        for function, claims in self.CALLS:
            for places in NOT_WHOLE + [0, -1, -5]:
                for pairs in [[], [(0, 1)], None]:
                    with self.subTest(function=function.__name__, places=places, pairs=pairs):
                        self.assertEqual(vars(raised(self, InvalidCount, function, places, pairs, *claims)), {})

    def test_wrong_pairs(self):
        cases = self.BAD_PAIRS + NOT_LISTS + [[value] for value in ANY_VALUES if value != (1, 0)]
        cases += [[(value, 1)] for value in NOT_NATURAL] + [[(1, value)] for value in NOT_NATURAL]
        for function, claims in self.CALLS:
            for pairs in cases:
                with self.subTest(function=function.__name__, pairs=pairs):
                    self.assertEqual(vars(raised(self, InvalidPairs, function, 2, pairs, *claims)), {})
        for function, claims in self.CALLS:
            raised(self, InvalidPairs, function, 1, [(0, 0)], *claims)
            raised(self, InvalidPairs, function, 1, [(0, 1)], *claims)

    def test_order_of_the_errors(self):
        for function, claims in self.CALLS:
            raises_first(self, function, [
                (2, [(value, (InvalidCount, {})) for value in [True, 0, None, 2.0]]),
                ([(0, 1)], [(pairs, (InvalidPairs, {})) for pairs in self.BAD_PAIRS]),
                *[(claim, []) for claim in claims],
            ])

    def test_arguments_by_name(self):
        self.assertEqual(plan_with_visits(pairs=[(0, 1)], places=2), ("none", 0, 1, [1]))
        self.assertEqual(check_visit_plan(claim=("plan", []), pairs=[(0, 1)], places=2), ("lacking", 0, 1))
