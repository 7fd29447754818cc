import itertools
import unittest

from leastpass.boards import check_board
from leastpass.errors import InvalidPlan, InvalidSizes
from leastpass.signatures import check_comparison, compare_plans, plan_signature
from tests.support import (
    ANY_VALUES, BAD_PLANS, BAD_SIZES, NOT_LISTS, Watched, all_boards, all_plans, all_sizes, check_claims, is_board,
    plan_choice, raised, raises_first, sizes_choice, slow_boards, slow_positions, slow_required, slow_sizes,
)

TWO = ((1, 1), (1, 1))
STUCK = ((1, 1), ((1, 2), (3, 4)))
THREE = ((1, 1, 1), (1, 1, 1))
SHIFT = (1, 2, 0)
BACK = (2, 0, 1)


def slow_signature(sizes, plan):
    """Follow the loads round by round, [70]."""
    lots, bases = sizes
    required = slow_required(sizes)
    visits = {load: [] for load, lot in enumerate(lots) if lot}
    visitors = {place: [] for place, base in enumerate(bases) if base}
    path = slow_positions(len(lots), plan)
    for positions in path[1:]:
        for load, place in enumerate(positions):
            if (load, place) in required and place not in visits[load]:
                visits[load].append(place)
                visitors[place].append(load)
    return [(load, path[-1][load]) for load in visits], list(visits.items()), list(visitors.items())


def slow_check_comparison(sizes, first, second, claim):
    """The list of faults in [72], one after the other."""
    if repr(claim) == "('same',)":
        return None if slow_signature(sizes, first) == slow_signature(sizes, second) else ("signature",)
    if type(claim) is not tuple or len(claim) != 2 or claim[0] != "different" or not is_board(claim[1]):
        return ("form",)
    board = claim[1]
    if slow_sizes(board) != sizes:
        return ("sizes",)
    return ("result",) if slow_boards(board, first)[-1] == slow_boards(board, second)[-1] else None


def large_sizes_and_plans():
    """Yield sizes and pairs of plans at the limits of [3] and somewhat beyond."""
    for places in [12, 14]:
        same = tuple(range(places))
        shift = same[1:] + same[:1]
        swap = (1, 0) + same[2:]
        some = tuple((5 * place + 3) % 7 % 3 for place in range(places))
        plans = [
            [], [same] * 40, [shift] * 40, [shift] * (places - 1), [same[::-1], shift] * 20, [swap] * 3, [swap, shift] * 20,
            [shift, swap] * 20, [same] * 38 + [swap, swap], [swap] + [same] * 39,
        ]
        for sizes in [((12,) * places, (12,) * places), ((24,) * places, (1,) * places), (some, some[::-1])]:
            for first, second in itertools.product(plans, repeat=2):
                yield sizes, first, second


class PlanSignature(unittest.TestCase):
    """[70]"""

    def check(self, sizes, plan, result):
        with self.subTest(sizes=sizes, plan=plan):
            self.assertEqual(repr(Watched(self).call(plan_signature, sizes, plan)), repr(result))

    def test_example(self):
        self.check(TWO, [(1, 0)], ([(0, 1), (1, 0)], [(0, [1]), (1, [0])], [(0, [1]), (1, [0])]))

    def test_ordinary(self):
        self.check(THREE, [SHIFT, SHIFT], (
            [(0, 2), (1, 0), (2, 1)],
            [(0, [1, 2]), (1, [2, 0]), (2, [0, 1])],
            [(0, [2, 1]), (1, [0, 2]), (2, [1, 0])],
        ))
        self.check(THREE, [SHIFT, (0, 1, 2), BACK, SHIFT], (
            [(0, 1), (1, 2), (2, 0)], [(0, [1]), (1, [2]), (2, [0])], [(0, [2]), (1, [0]), (2, [1])],
        ))

    def test_lots_and_bases_of_zero(self):
        self.check(((1, 0, 2), (0, 3, 0)), [SHIFT, SHIFT], ([(0, 2), (2, 1)], [(0, [1]), (2, [1])], [(1, [0, 2])]))
        self.check(((0, 0), (1, 1)), [(1, 0)], ([], [], [(0, []), (1, [])]))
        self.check(((1, 1), (0, 0)), [(1, 0)], ([(0, 1), (1, 0)], [(0, []), (1, [])], []))
        self.check(((0, 0), (0, 0)), [(1, 0)], ([], [], []))

    def test_edges(self):
        self.check(((1,), (1,)), [(0,)], ([(0, 0)], [(0, [])], [(0, [])]))
        self.check(((0,), (0,)), [], ([], [], []))
        self.check(TWO, [], ([(0, 0), (1, 1)], [(0, []), (1, [])], [(0, []), (1, [])]))
        self.check(TWO, [(0, 1)] * 3, ([(0, 0), (1, 1)], [(0, []), (1, [])], [(0, []), (1, [])]))

    def test_small_and_large_plans(self):
        cases = [(sizes, plan) for sizes in all_sizes(2, 1) for plan in all_plans(2, 3)]
        cases += [(sizes, plan) for sizes in list(all_sizes(3, 1))[::3] for plan in all_plans(3, 3)]
        cases += [(sizes, plan) for sizes, plan, _ in large_sizes_and_plans()]
        for sizes, plan in cases:
            self.assertEqual(plan_signature(sizes, plan), slow_signature(sizes, plan))


class ComparePlans(unittest.TestCase):
    """[71]"""

    def check(self, sizes, first, second, word):
        with self.subTest(sizes=sizes, first=first, second=second):
            found = Watched(self).call(compare_plans, sizes, first, second)
            self.check_result(sizes, first, second, found)
            self.assertEqual(found[0], word)

    def check_result(self, sizes, first, second, found):
        if found != ("same",):
            self.assertEqual(len(found), 2)
            self.assertEqual(found[0], "different")
            self.assertIsNone(check_board(found[1]))
            self.assertEqual(slow_sizes(found[1]), sizes)
            self.assertNotEqual(slow_boards(found[1], first)[-1], slow_boards(found[1], second)[-1])
        self.assertIsNone(check_comparison(sizes, first, second, found))

    def test_example(self):
        self.assertEqual(compare_plans(TWO, [(1, 0)], [(1, 0), (1, 0), (1, 0)]), ("same",))

    def test_ordinary(self):
        self.check(TWO, [], [(1, 0)], "different")
        self.check(TWO, [], [(1, 0), (1, 0)], "different")
        self.check(TWO, [(1, 0)], [(1, 0), (1, 0)], "different")
        self.check(THREE, [SHIFT, SHIFT], [BACK], "different")
        self.check(THREE, [SHIFT, BACK], [SHIFT, BACK, SHIFT, BACK], "same")

    def test_the_order_of_the_meetings_of_a_load(self):
        # The load of 0 meets 1 and 2 in one order or the other, and comes home.
        sizes = ((1, 0, 0), (0, 1, 1))
        self.check(sizes, [(1, 0, 2), (0, 2, 1), (2, 1, 0)], [(2, 1, 0), (0, 2, 1), (1, 0, 2)], "different")
        self.check(((3, 0, 0), (0, 2, 2)), [(1, 0, 2), (0, 2, 1), (2, 1, 0)], [(2, 1, 0), (0, 2, 1), (1, 0, 2)], "different")
        self.check(((3, 0, 0), (1, 2, 0)), [(1, 0, 2), (0, 2, 1), (2, 1, 0)], [(2, 1, 0), (0, 2, 1), (1, 0, 2)], "same")

    def test_the_order_of_the_meetings_of_a_place(self):
        # The place 2 is met by 0 and 1 in one order or the other, and they come home.
        sizes = ((1, 1, 0), (0, 0, 1))
        first = [(2, 1, 0), (2, 1, 0), (0, 2, 1), (0, 2, 1)]
        self.check(sizes, first, first[::-1], "different")
        self.check(((2, 3, 0), (0, 0, 4)), first, first[::-1], "different")
        self.check(((2, 0, 0), (0, 0, 4)), first, first[::-1], "same")

    def test_all_orders_of_the_meetings_of_a_load(self):
        for others in [[1, 2, 3], [1, 2, 3, 4]]:
            sizes = (1,) + (0,) * len(others), (0,) + (1,) * len(others)
            orders = list(itertools.permutations(others))
            plans = [[self.swap(len(order), *step) for step in zip((0,) + order, order + (0,))] for order in orders]
            for one, other in itertools.product(range(len(orders)), repeat=2):
                self.check(sizes, plans[one], plans[other], "same" if one == other else "different")

    def test_all_orders_of_the_meetings_of_a_place(self):
        for others in [[1, 2, 3], [1, 2, 3, 4]]:
            sizes = (0,) + (1,) * len(others), (1,) + (0,) * len(others)
            orders = list(itertools.permutations(others))
            # Each load goes home before the next one comes.
            plans = [[self.swap(len(order), 0, place) for place in order for _ in range(2)] for order in orders]
            for one, other in itertools.product(range(len(orders)), repeat=2):
                self.check(sizes, plans[one], plans[other], "same" if one == other else "different")

    def swap(self, last, one, other):
        places = {one: other, other: one}
        return tuple(places.get(place, place) for place in range(last + 1))

    def test_edges(self):
        self.check(((1,), (1,)), [], [(0,)], "same")
        self.check(((0, 0), (3, 3)), [], [(1, 0)], "same")
        self.check(((0, 0), (0, 0)), [], [(1, 0)], "same")
        self.check(((1, 1), (0, 0)), [], [(1, 0)], "different")
        self.check(((1, 0), (0, 0)), [], [(1, 0)], "different")
        self.check(((1, 0, 0), (0, 0, 0)), [], [(0, 2, 1)], "same")
        self.check(TWO, [], [], "same")
        self.check(TWO, [], [(0, 1)], "same")

    def test_both_plans_on_all_boards(self):
        cases = [(sizes, all_plans(2, 3)) for sizes in [*all_sizes(2, 1), ((2, 1), (1, 2)), ((2, 3), (2, 0))]]
        cases += [(sizes, list(all_plans(3, 3))[::9]) for sizes in [
            THREE, ((1, 1, 0), (1, 0, 2)), ((0, 2, 1), (1, 1, 0)), ((1, 0, 0), (0, 1, 1)), ((1, 1, 0), (0, 0, 1)), ((0, 0, 0), (1, 1, 1)),
            ((2, 1, 1), (1, 1, 1)),
        ]]
        for sizes, plans in cases:
            boards = list(all_boards(sizes))
            plans = list(plans)
            results = [[slow_boards(board, plan)[-1] for board in boards] for plan in plans]
            for one, other in itertools.product(range(len(plans)), repeat=2):
                found = compare_plans(sizes, plans[one], plans[other])
                self.assertEqual(found == ("same",), results[one] == results[other])
                self.check_result(sizes, plans[one], plans[other], found)

    def test_limits(self):
        for sizes, first, second in large_sizes_and_plans():
            found = compare_plans(sizes, first, second)
            self.assertEqual(found == ("same",), slow_signature(sizes, first) == slow_signature(sizes, second))
            self.check_result(sizes, first, second, found)

    def test_plans_longer_than_the_limit(self):
        self.check(THREE, [SHIFT] * 99, [SHIFT] * 3, "same")
        self.check(THREE, [SHIFT] * 100, [SHIFT] * 3, "different")


class CheckComparison(unittest.TestCase):
    """[72]"""

    def check(self, sizes, first, second, claim, fault):
        with self.subTest(sizes=sizes, first=first, second=second, claim=claim):
            self.assertEqual(repr(Watched(self).call(check_comparison, sizes, first, second, claim)), repr(fault))

    def test_example(self):
        self.check(TWO, [], [(1, 0)], ("same",), ("signature",))

    def test_same(self):
        self.check(TWO, [(1, 0)], [(1, 0)] * 3, ("same",), None)
        self.check(TWO, [], [(1, 0)] * 2, ("same",), ("signature",))
        self.check(((1, 1), (0, 0)), [], [(1, 0)] * 2, ("same",), None)

    def test_any_board(self):
        for board in all_boards(TWO):
            same = slow_boards(board, [(1, 0)] * 2)[-1] == board
            self.check(TWO, [], [(1, 0)] * 2, ("different", board), ("result",) if same else None)
            self.check(TWO, [], [(1, 0)], ("different", board), None)
            self.check(TWO, [(1, 0)], [(1, 0)] * 3, ("different", board), ("result",))

    def test_form(self):
        for claim in [
            None, "same", ["same"], ("same", 0), ("same", STUCK), ("different",), ("different", None), ("different", STUCK, 0),
            ["different", STUCK], ("different", ((1, 1), ((1, 2), (2, 4)))), ("different", ((True, 1), ((1, 2), (3, 4)))), ("other", STUCK),
            ("different", list(STUCK)), (), ("different", ((1, 1), ((1, 2), (3, True)))),
        ]:
            self.check(TWO, [], [(1, 0)], claim, ("form",))

    def test_sizes(self):
        for board in [((1,), ((1, 2),)), ((1, 0), ((1, 2), (3, 4))), ((1, 1), ((1, 2), (3,))), ((1, 1, 0), ((1, 2), (3, 4), ()))]:
            self.check(TWO, [], [(1, 0)], ("different", board), ("sizes",))
            self.check(TWO, [], [], ("different", board), ("sizes",))

    def test_any_claim(self):
        claims = [("same",), ("different", STUCK), ("different", ((1, 1), ((2, 3), (0, 1)))), ("different", ((1, 1), ((0, 3), (1, 2))))]
        for first, second in [([], [(1, 0)]), ([(1, 0)], [(1, 0)] * 3), ([], [(1, 0)] * 2)]:
            faults = check_claims(self, check_comparison, slow_check_comparison, (TWO, first, second), claims)
            self.assertLessEqual({None, "form", "sizes"}, faults)
        self.assertEqual(faults, {None, "form", "sizes", "signature", "result"})
        check_claims(self, check_comparison, slow_check_comparison, (((0,), (1,)), [], []), [("same",), ("different", ((0,), ((5,),)))])

    def test_result_of_its_function_changed_in_one_item(self):
        word, board = compare_plans(TWO, [], [(1, 0)] * 2)
        self.check(TWO, [], [(1, 0)] * 2, (word, board), None)
        self.check(TWO, [], [(1, 0)] * 2, (word, (board[0], (board[1][0] + (9,), board[1][1]))), ("sizes",))
        self.check(TWO, [], [(1, 0)] * 2, (word, (board[0], ((0, 2), (1, 3)))), ("result",))
        self.check(TWO, [], [(1, 0)] * 2, ("same", board), ("form",))
        self.check(TWO, [], [(1, 0)] * 2, ("same",), ("signature",))

    def test_limits(self):
        for sizes, first, second in large_sizes_and_plans():
            same = slow_signature(sizes, first) == slow_signature(sizes, second)
            self.assertEqual(check_comparison(sizes, first, second, ("same",)), None if same else ("signature",))


class Errors(unittest.TestCase):
    """The errors of [70] to [72]."""

    CALLS = [(compare_plans, ())] + [
        (check_comparison, (claim,)) for claim in [("same",), ("different", STUCK), None, {}, ("same", 0), []]
    ]

    def test_wrong_sizes(self):
        for sizes, reason in BAD_SIZES + [(value, ("shape",)) for value in ANY_VALUES]:
            for plan in [[], None, [(0,)]]:
                with self.subTest(sizes=sizes, plan=plan):
                    self.assertEqual(vars(raised(self, InvalidSizes, plan_signature, sizes, plan)), {"reason": reason})
                    for function, claims in self.CALLS:
                        error = raised(self, InvalidSizes, function, sizes, plan, plan, *claims)
                        self.assertEqual(vars(error), {"reason": reason})

    def test_wrong_plan(self):
        for plan, reason in BAD_PLANS + [(value, ("plan",)) for value in NOT_LISTS]:
            with self.subTest(plan=plan):
                self.assertEqual(vars(raised(self, InvalidPlan, plan_signature, TWO, plan)), {"reason": reason})
                for function, claims in self.CALLS:
                    for first, second in [(plan, []), ([], plan), (plan, plan), (plan, [(1, 1)]), (plan, None)]:
                        error = raised(self, InvalidPlan, function, TWO, first, second, *claims)
                        self.assertEqual(vars(error), {"reason": reason})

    def test_order_of_the_errors(self):
        raises_first(self, plan_signature, [sizes_choice(TWO), plan_choice([(1, 0)])])
        for function, claims in self.CALLS:
            plans = [plan_choice([(1, 0)]), plan_choice([(1, 0)])]
            raises_first(self, function, [sizes_choice(TWO), *plans, *[(claim, []) for claim in claims]])

    def test_arguments_by_name(self):
        self.assertEqual(plan_signature(plan=[], sizes=((0,), (0,))), ([], [], []))
        self.assertEqual(compare_plans(second=[(1, 0)] * 3, first=[(1, 0)], sizes=TWO), ("same",))
        self.assertEqual(check_comparison(claim=("same",), second=[(1, 0)], first=[], sizes=TWO), ("signature",))
