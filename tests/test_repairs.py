import itertools
import unittest

from leastpass.boards import check_plan
from leastpass.errors import InvalidPlan, InvalidSizes
from leastpass.fairness import judge_fairness, settling_time
from leastpass.repairs import check_repair, fewest_rounds, repair_plan
from tests.support import (
    ANY_VALUES, BAD_PLANS, BAD_SIZES, NOT_LISTS, Watched, all_plans, all_sizes, check_claims, is_place_of, is_plan_of,
    plan_choice, raised, raises_first, sizes_choice, slow_missed, slow_required,
)

TWO = ((1, 1), (1, 1))
THREE = ((1, 1, 1), (1, 1, 1))
SHIFT = (1, 2, 0)


def slow_check_repair(sizes, plan, claim):
    """The list of faults in [51], one after the other."""
    places = len(sizes[0])
    if type(claim) is not tuple or len(claim) != 2 or not is_plan_of(places, claim[0]):
        return ("form",)
    rounds, reason = claim
    if reason is not None:
        if type(reason) is not tuple or len(reason) != 2 or reason[0] not in ["from", "to"]:
            return ("form",)
        if not is_place_of(places, reason[1]):
            return ("form",)
    missed = slow_missed(sizes, plan + rounds)
    if missed:
        return ("missed", *missed[0])
    if reason is None or not rounds:
        return None if reason is None and not rounds else ("reason",)
    at = ["from", "to"].index(reason[0])
    count = sum(pair[at] == reason[1] for pair in slow_missed(sizes, plan))
    return None if count == len(rounds) else ("reason",)


def most_pairs_of_one(places, pairs):
    return max(max(sum(load == at for load, _ in pairs), sum(place == at for _, place in pairs)) for at in range(places))


def small_cases():
    """Yield sizes and plans of one to four places."""
    for sizes in all_sizes(1, 1):
        for plan in all_plans(1, 1):
            yield sizes, plan
    for sizes in all_sizes(2, 1):
        for plan in all_plans(2, 2):
            yield sizes, plan
    for sizes in all_sizes(3, 1):
        for plan in all_plans(3, 2):
            yield sizes, plan
    for sizes in [((1,) * 4, (1,) * 4), ((1, 0, 1, 1), (0, 1, 1, 1)), ((2, 2, 0, 0), (0, 3, 1, 1)), ((0, 0, 1, 0), (1, 1, 1, 1))]:
        for plan in [[], [(1, 2, 3, 0)], [(1, 0, 3, 2)], [(1, 2, 0, 3), (1, 2, 0, 3)], [(0, 2, 1, 3), (1, 2, 3, 0)]]:
            yield sizes, plan


def large_cases():
    """Yield sizes and plans at the limits of [3] and somewhat beyond."""
    for places in [12, 14]:
        same = tuple(range(places))
        shift = same[1:] + same[:1]
        halves = same[1:6] + same[:1] + same[7:] + same[6:7]
        some = tuple((5 * place + 3) % 7 % 3 for place in range(places))
        for sizes in [((12,) * places, (12,) * places), (some, some[::-1]), (some, some), ((1,) + (0,) * (places - 1), (2,) * places)]:
            for plan in [[], [same] * 40, [shift], [shift] * 40, [halves] * 40, [shift, halves] * 3, [same[::-1], shift] * 2]:
                yield sizes, plan


class RepairPlan(unittest.TestCase):
    """[50]"""

    def check(self, sizes, plan, number):
        with self.subTest(sizes=sizes, plan=plan):
            rounds, reason = Watched(self).call(repair_plan, sizes, plan)
            self.assertEqual(len(rounds), number)
            self.assertTrue(is_plan_of(len(sizes[0]), rounds))
            self.assertEqual(slow_missed(sizes, plan + rounds), [])
            self.assertIsNone(slow_check_repair(sizes, plan, (rounds, reason)))
            self.assertIsNone(check_repair(sizes, plan, (rounds, reason)))
            return rounds, reason

    def test_example(self):
        self.assertEqual(repair_plan(TWO, [])[0], [(1, 0)])

    def test_ordinary(self):
        self.check(TWO, [], 1)
        self.check(THREE, [], 2)
        self.check(THREE, [SHIFT], 1)
        self.check(THREE, [SHIFT, (2, 0, 1)], 1)
        self.check(((1, 1, 1), (1, 0, 0)), [], 2)
        self.check(((1, 0, 0), (1, 1, 1)), [], 2)
        self.check(((1, 0, 0), (1, 1, 1)), [(2, 1, 0)], 1)

    def test_fair_with_no_round(self):
        for sizes, plan in [
            (((1,), (1,)), []), (((1,), (1,)), [(0,)]), (((0, 0), (3, 3)), []), (((3, 3), (0, 0)), [(1, 0)]), (TWO, [(1, 0)]),
            (THREE, [SHIFT, SHIFT]), (((3, 0), (2, 0)), []),
        ]:
            self.assertEqual(self.check(sizes, plan, 0), ([], None))

    def test_reason_is_a_load_or_a_place(self):
        self.assertEqual(self.check(((1, 0, 0), (1, 1, 1)), [], 2)[1], ("from", 0))
        self.assertEqual(self.check(((0, 1, 0), (1, 0, 1)), [], 2)[1], ("from", 1))
        self.assertEqual(self.check(((1, 1, 1), (0, 0, 1)), [], 2)[1], ("to", 2))
        self.assertEqual(self.check(((1, 0, 1), (1, 1, 0)), [], 2)[1], ("from", 2))

    def test_no_shorter_list_of_rounds(self):
        for sizes, plan in small_cases():
            places = len(sizes[0])
            rounds, _ = self.check(sizes, plan, most_pairs_of_one(places, slow_missed(sizes, plan)))
            if rounds:
                every = itertools.permutations(range(places))
                for shorter in itertools.product(every, repeat=len(rounds) - 1) if len(rounds) < 4 else []:
                    self.assertNotEqual(slow_missed(sizes, plan + list(shorter)), [])
            # Fewer rounds than one less are one less with rounds in which nothing moves.

    def test_limits(self):
        for sizes, plan in large_cases():
            number = most_pairs_of_one(len(sizes[0]), slow_missed(sizes, plan))
            self.check(sizes, plan, number)

    def test_plans_longer_than_the_limit(self):
        sizes = ((12,) * 12, (12,) * 12)
        plan = [tuple(range(12))] * 37
        rounds, _ = self.check(sizes, plan, 11)
        self.assertEqual(judge_fairness(sizes, plan + rounds), ("fair",))
        self.assertEqual(settling_time(sizes, plan + rounds)[:2], ("time", 48))
        self.assertEqual(repair_plan(sizes, plan + rounds), ([], None))

    def test_result_does_not_follow_the_plan(self):
        plan = []
        result = repair_plan(TWO, plan)
        plan.append((1, 0))
        self.assertEqual(result[0], [(1, 0)])


class CheckRepair(unittest.TestCase):
    """[51]"""

    def check(self, sizes, plan, claim, fault):
        with self.subTest(sizes=sizes, plan=plan, claim=claim):
            self.assertEqual(repr(Watched(self).call(check_repair, sizes, plan, claim)), repr(fault))

    def test_example(self):
        self.check(TWO, [], ([], None), ("missed", 0, 1))

    def test_any_list_and_any_reason(self):
        for reason in [("from", 0), ("from", 1), ("to", 0), ("to", 1)]:
            self.check(TWO, [], ([(1, 0)], reason), None)
        for rounds in [[SHIFT, SHIFT], [(2, 0, 1), (2, 0, 1)], [SHIFT, SHIFT][::-1]]:
            self.check(THREE, [], (rounds, ("from", 2)), None)
            self.check(THREE, [], (rounds, ("to", 2)), None)
        self.check(TWO, [(1, 0)], ([], None), None)

    def test_form(self):
        for claim in [
            None, [], ([], None, None), ([],), [[(1, 0)], ("from", 0)], (((1, 0),), ("from", 0)), ([(1, 1)], ("from", 0)),
            ([[1, 0]], ("from", 0)), ([(True, 0)], ("from", 0)), ([(1, 0)], ["from", 0]), ([(1, 0)], ("from",)),
            ([(1, 0)], ("from", 2)), ([(1, 0)], ("from", -1)), ([(1, 0)], ("to", False)), ([(1, 0)], ("into", 0)),
            ([(1, 0)], ("from", 0, 0)), ([(1, 0)], ()), ([(1, 0)], False), ([(0,)], ("from", 0)),
        ]:
            self.check(TWO, [], claim, ("form",))

    def test_missed(self):
        self.check(THREE, [], ([SHIFT], ("from", 0)), ("missed", 0, 2))
        self.check(THREE, [SHIFT], ([], None), ("missed", 0, 2))
        self.check(THREE, [SHIFT], ([(0, 1, 2)], ("from", 0)), ("missed", 0, 2))
        self.check(THREE, [], ([(0, 2, 1), SHIFT], ("from", 0)), ("missed", 0, 2))

    def test_reason(self):
        self.check(TWO, [], ([(1, 0)], None), ("reason",))
        self.check(TWO, [(1, 0)], ([], ("from", 0)), ("reason",))
        self.check(TWO, [], ([(1, 0), (0, 1)], ("from", 0)), ("reason",))
        self.check(((1, 1, 1), (0, 0, 1)), [], ([SHIFT, SHIFT], ("from", 0)), ("reason",))
        self.check(((1, 1, 1), (0, 0, 1)), [], ([SHIFT, SHIFT], ("to", 1)), ("reason",))
        self.check(((1, 1, 1), (0, 0, 1)), [], ([SHIFT, SHIFT], ("to", 2)), None)
        # More pairs than rounds are no reason either, and none is left when the plan is fair.
        self.check(((0, 0), (1, 1)), [], ([], ("to", 0)), ("reason",))
        self.check(((0, 0), (1, 1)), [], ([(0, 1)], ("to", 0)), ("reason",))

    def test_several_faults_at_once(self):
        self.check(TWO, [], ([], ("from", 2)), ("form",))
        self.check(TWO, [], ([], ("from", 0)), ("missed", 0, 1))
        self.check(THREE, [], ([SHIFT], None), ("missed", 0, 2))

    def test_any_claim(self):
        claims = [([(1, 0)], ("from", 0)), ([(1, 0)], ("to", 1)), ([], None), ([(1, 0)], None), ([], ("to", 1)), ([(0, 1), (1, 0)], ("from", 1))]
        for sizes, plan in [(TWO, []), (TWO, [(1, 0)]), (((1, 0), (1, 1)), []), (((0, 0), (1, 1)), [])]:
            faults = check_claims(self, check_repair, slow_check_repair, (sizes, plan), claims)
            self.assertLessEqual({None, "form", "reason"}, faults)
        claims = [repair_plan(THREE, []), ([SHIFT], ("from", 1)), ([SHIFT, SHIFT, SHIFT], ("from", 1))]
        faults = check_claims(self, check_repair, slow_check_repair, (THREE, []), claims)
        self.assertEqual(faults, {None, "form", "missed", "reason"})

    def test_all_short_lists(self):
        reasons = [None, *itertools.product(["from", "to"], range(3))]
        for sizes in [THREE, ((1, 1, 0), (0, 1, 2)), ((0, 0, 1), (1, 0, 0))]:
            for plan in [[], [SHIFT], [(1, 0, 2), (0, 2, 1)]]:
                for rounds in all_plans(3, 2):
                    for reason in reasons:
                        arguments = (sizes, plan, (rounds, reason))
                        self.assertEqual(check_repair(*arguments), slow_check_repair(*arguments))

    def test_result_of_its_function_changed_in_one_item(self):
        rounds, reason = repair_plan(THREE, [])
        self.check(THREE, [], (rounds, reason), None)
        for at in range(2):
            for other in itertools.permutations(range(3)):
                changed = rounds[:at] + [other] + rounds[at + 1:]
                if changed != rounds:
                    self.assertEqual(check_repair(THREE, [], (changed, reason))[0], "missed")
        self.check(THREE, [], (rounds[:1], reason), ("missed", *slow_missed(THREE, rounds[:1])[0]))
        self.check(THREE, [], (rounds + [SHIFT], reason), ("reason",))
        self.check(THREE, [], (rounds, None), ("reason",))

    def test_limits(self):
        for sizes, plan in large_cases():
            rounds, reason = repair_plan(sizes, plan)
            self.assertIsNone(check_repair(sizes, plan, (rounds, reason)))
            if rounds:
                self.assertEqual(check_repair(sizes, plan, (rounds, None)), ("reason",))
                expected = ("missed", *slow_missed(sizes, plan + rounds[:-1])[0])
                self.assertEqual(check_repair(sizes, plan, (rounds[:-1], reason)), expected)


class FewestRounds(unittest.TestCase):
    """[52]"""

    def check(self, sizes, number):
        with self.subTest(sizes=sizes):
            self.assertEqual(repr(Watched(self).call(fewest_rounds, sizes)), repr(number))

    def test_example(self):
        self.check(THREE, 2)

    def test_ordinary_and_edges(self):
        self.check(((1,), (1,)), 0)
        self.check(((0,), (0,)), 0)
        self.check(((0, 0), (3, 3)), 0)
        self.check(((3, 3), (0, 0)), 0)
        self.check(((3, 0), (3, 0)), 0)
        self.check(((3, 0), (0, 3)), 1)
        self.check(((3, 0, 0), (1, 0, 1)), 1)
        self.check(((3, 0, 0), (0, 1, 1)), 2)
        self.check(((1, 1, 1), (0, 0, 9)), 2)
        self.check(((24,) * 12, (24,) * 12), 11)
        self.check(((24,) * 14, (24,) * 14), 13)

    def test_against_all_plans(self):
        for sizes in [*all_sizes(2, 1), *all_sizes(3, 1)]:
            lengths = [len(plan) for plan in all_plans(len(sizes[0]), 2) if not slow_missed(sizes, plan)]
            self.assertEqual(fewest_rounds(sizes), min(lengths))

    def test_as_many_as_repair_the_empty_plan(self):
        for sizes, _ in [*small_cases(), *large_cases()]:
            number = most_pairs_of_one(len(sizes[0]), slow_required(sizes))
            self.assertEqual(fewest_rounds(sizes), number)
            self.assertEqual(len(repair_plan(sizes, [])[0]), number)


class Errors(unittest.TestCase):
    """The errors of [50] to [52]."""

    CALLS = [(repair_plan, ())] + [(check_repair, (claim,)) for claim in [([], None), None, {}, ([(1, 1)], 0), [1]]]

    def test_wrong_sizes(self):
        for sizes, reason in BAD_SIZES + [(value, ("shape",)) for value in ANY_VALUES]:
            with self.subTest(sizes=sizes):
                self.assertEqual(vars(raised(self, InvalidSizes, fewest_rounds, sizes)), {"reason": reason})
                for function, claims in self.CALLS:
                    for plan in [[], None]:
                        error = raised(self, InvalidSizes, function, sizes, plan, *claims)
                        self.assertEqual(vars(error), {"reason": reason})

    def test_wrong_plan(self):
        for plan, reason in BAD_PLANS + [(value, ("plan",)) for value in NOT_LISTS]:
            for function, claims in self.CALLS:
                with self.subTest(function=function.__name__, plan=plan):
                    error = raised(self, InvalidPlan, function, TWO, plan, *claims)
                    self.assertEqual(vars(error), {"reason": reason})

    def test_order_of_the_errors(self):
        raises_first(self, fewest_rounds, [sizes_choice(TWO)])
        for function, claims in self.CALLS:
            raises_first(self, function, [sizes_choice(TWO), plan_choice([(1, 0)]), *[(claim, []) for claim in claims]])

    def test_arguments_by_name(self):
        self.assertEqual(repair_plan(plan=[], sizes=TWO)[0], [(1, 0)])
        self.assertEqual(check_repair(claim=([], None), plan=[], sizes=TWO), ("missed", 0, 1))
        self.assertEqual(fewest_rounds(sizes=TWO), 1)
        self.assertIsNone(check_plan(2, repair_plan(TWO, [])[0]))
