import itertools
import unittest

from leastpass.boards import check_board
from leastpass.errors import InvalidPlan, InvalidSizes
from leastpass.fairness import (
    check_fairness, check_misplacement, judge_fairness, missed_visits, repeats_until_fair, settling_time,
    worst_misplacement,
)
from tests.support import (
    ANY_VALUES, BAD_PLANS, BAD_SIZES, NOT_LISTS, Watched, all_boards, all_plans, all_sizes, plan_choice, raised,
    raises_first, sizes_choice, slow_boards, slow_meetings, slow_misplaced, slow_missed, slow_parts, slow_positions,
    slow_sizes, spread_board,
)

FUNCTIONS = [missed_visits, judge_fairness, repeats_until_fair, worst_misplacement, settling_time]
CHECKERS = [check_fairness, check_misplacement]
TWO = ((1, 1), (1, 1))
THREE = ((1, 1, 1), (1, 1, 1))
SHIFT = (1, 2, 0)
# At most seven cards.
LARGER_SIZES = [
    ((2, 1, 1), (1, 1, 1)), ((1, 1, 0), (2, 1, 2)), ((2, 0, 2), (1, 1, 1)), ((0, 3, 1), (2, 0, 1)), ((1, 2, 0), (2, 0, 2)),
]


def small_sizes_and_plans():
    """Yield sizes of one to three places and at most seven cards, with plans."""
    for sizes in all_sizes(1, 2):
        yield sizes, list(all_plans(1, 2))
    for sizes in [*all_sizes(2, 1), ((2, 1), (1, 2)), ((2, 2), (1, 2)), ((3, 1), (0, 3)), ((2, 3), (2, 0))]:
        yield sizes, list(all_plans(2, 3))
    for sizes in [*all_sizes(3, 1), *LARGER_SIZES]:
        yield sizes, list(all_plans(3, 2))
    yield THREE, list(itertools.islice(all_plans(3, 3), 43, None, 5))


def large_sizes_and_plans():
    """Yield sizes and plans at the limits of [3] and somewhat beyond."""
    for places, lot, size in [(12, 7, 24), (12, 24, 24), (12, 1, 24), (13, 11, 26)]:
        sizes = slow_sizes(spread_board(places, lot, size, 5))
        same = tuple(range(places))
        shift = same[1:] + same[:1]
        halves = same[1:6] + same[:1] + same[7:] + same[6:7]
        for plan in [[], [same] * 40, [shift] * 40, [shift] * 5, [halves] * 40, [shift, halves] * 20, [same] * 30 + [shift] * 11]:
            yield sizes, plan
    mixed = ((3, 0, 24, 1, 0, 2, 5, 0, 0, 9, 1, 1), (0, 24, 0, 20, 7, 0, 1, 1, 24, 2, 0, 23))
    for plan in [[], [tuple(range(1, 12)) + (0,)] * 3, [tuple(reversed(range(12)))]]:
        yield mixed, plan


def pairs_out_of_order(board, plan):
    """Return the pairs (p, q) with a card of the load of p above a card of the heap of q after the plan."""
    loads, heaps = slow_parts(slow_boards(board, plan)[-1])
    found = []
    for load, place in enumerate(slow_positions(len(board[0]), plan)[-1]):
        for target, heap in enumerate(heaps):
            if any(high > low for high in loads[place] for low in heap):
                found.append((load, target))
    return found


class Small(unittest.TestCase):
    """[43] to [49] against all boards of small sizes, played card by card."""

    def test_all_boards(self):
        for sizes, plans in small_sizes_and_plans():
            boards = list(all_boards(sizes))
            for plan in plans:
                through = [slow_boards(board, plan) for board in boards]
                with self.subTest(sizes=sizes, plan=plan):
                    self.check_fairness(sizes, plan, through)
                    self.check_misplacement(sizes, plan, through)
                    self.check_time(sizes, plan, through)

    def check_fairness(self, sizes, plan, through):
        found = judge_fairness(sizes, plan)
        self.assertEqual(found == ("fair",), all(slow_misplaced(boards[-1]) == 0 for boards in through))
        self.assertEqual(missed_visits(sizes, plan), slow_missed(sizes, plan))
        if found != ("fair",):
            word, load, place, board = found
            self.assertEqual((word, load, place), ("unfair", *slow_missed(sizes, plan)[0]))
            self.assertEqual(slow_sizes(board), sizes)
            self.assertIn((load, place), pairs_out_of_order(board, plan))
            self.assertGreater(slow_misplaced(slow_boards(board, plan)[-1]), 0)
        self.assertIsNone(check_fairness(sizes, plan, found))

    def check_misplacement(self, sizes, plan, through):
        number, board = worst_misplacement(sizes, plan)
        self.assertEqual(number, max(slow_misplaced(boards[-1]) for boards in through))
        self.assertEqual(slow_sizes(board), sizes)
        self.assertEqual(slow_misplaced(slow_boards(board, plan)[-1]), number)
        self.assertIsNone(check_misplacement(sizes, plan, (number, board)))

    def check_time(self, sizes, plan, through):
        found = settling_time(sizes, plan)
        unsettled = [time for boards in through for time, board in enumerate(boards) if slow_misplaced(board)]
        if slow_missed(sizes, plan):
            self.assertEqual(found, ("unfair", *slow_missed(sizes, plan)[0]))
        elif not unsettled:
            self.assertEqual(found, ("time", 0, None))
        else:
            word, time, board = found
            self.assertEqual((word, time), ("time", max(unsettled) + 1))
            self.assertEqual(slow_sizes(board), sizes)
            self.assertGreater(slow_misplaced(slow_boards(board, plan)[time - 1]), 0)

    def test_repeats(self):
        for sizes, plans in small_sizes_and_plans():
            for plan in plans:
                counts = [count for count in range(5) if not slow_missed(sizes, plan * count)]
                self.assertEqual(repeats_until_fair(sizes, plan), min(counts, default=None))


class Large(unittest.TestCase):
    """The limits of [3], and somewhat beyond."""

    def test_judge_fairness(self):
        for sizes, plan in large_sizes_and_plans():
            missed = slow_missed(sizes, plan)
            self.assertEqual(missed_visits(sizes, plan), missed)
            found = judge_fairness(sizes, plan)
            self.assertIsNone(check_fairness(sizes, plan, found))
            if missed:
                self.assertEqual(found[1:3], missed[0])
                self.assertEqual(slow_sizes(found[3]), sizes)
                self.assertIn(missed[0], pairs_out_of_order(found[3], plan))
            else:
                self.assertEqual(found, ("fair",))

    def test_worst_misplacement(self):
        for sizes, plan in large_sizes_and_plans():
            number, board = worst_misplacement(sizes, plan)
            self.assertEqual(slow_sizes(board), sizes)
            self.assertEqual(slow_misplaced(slow_boards(board, plan)[-1]), number)
            self.assertEqual(number, self.largest_number(sizes, plan))
            self.assertIsNone(check_misplacement(sizes, plan, (number, board)))

    def largest_number(self, sizes, plan):
        """The formula in [47], for the sets P and for the best Q of each."""
        lots, bases = sizes
        missed = slow_missed(sizes, plan)
        rows = [sum(1 << place for load, place in missed if load == at) for at in range(len(lots))]
        best = 0
        shared = [(1 << len(lots)) - 1]
        sums = [0]
        for chosen in range(1, 1 << len(lots)):
            last = chosen.bit_length() - 1
            rest = chosen - (1 << last)
            shared.append(shared[rest] & rows[last])
            sums.append(sums[rest] + lots[last])
            best = max(best, min(sums[chosen], sum(base for at, base in enumerate(bases) if shared[chosen] >> at & 1)))
        return best

    def test_settling_time(self):
        for sizes, plan in large_sizes_and_plans():
            found = settling_time(sizes, plan)
            meetings = slow_meetings(sizes, plan)
            if slow_missed(sizes, plan):
                self.assertEqual(found, ("unfair", *slow_missed(sizes, plan)[0]))
            elif not meetings:
                self.assertEqual(found, ("time", 0, None))
            else:
                self.assertEqual(found[:2], ("time", meetings[-1][0]))
                self.assertEqual(slow_sizes(found[2]), sizes)
                self.assertGreater(slow_misplaced(slow_boards(found[2], plan)[found[1] - 1]), 0)
                self.assertEqual(slow_misplaced(slow_boards(found[2], plan)[found[1]]), 0)

    def test_repeats_until_fair(self):
        for places in [12, 13]:
            sizes = ((12,) * places, (12,) * places)
            same = tuple(range(places))
            shift = same[1:] + same[:1]
            self.assertEqual(repeats_until_fair(sizes, [shift]), places - 1)
            self.assertEqual(repeats_until_fair(sizes, [same] * 39 + [shift]), places - 1)
            self.assertEqual(repeats_until_fair(sizes, [shift] * (places - 1)), 1)
            self.assertEqual(repeats_until_fair(sizes, [shift, shift]), places // 2)
            self.assertIsNone(repeats_until_fair(sizes, [same] * 40))
            self.assertIsNone(repeats_until_fair(sizes, []))


class MissedVisits(unittest.TestCase):
    """[43]"""

    def check(self, sizes, plan, result):
        with self.subTest(sizes=sizes, plan=plan):
            self.assertEqual(repr(Watched(self).call(missed_visits, sizes, plan)), repr(result))

    def test_example(self):
        self.check(THREE, [SHIFT], [(0, 2), (1, 0), (2, 1)])

    def test_ordinary(self):
        self.check(THREE, [], [(0, 1), (0, 2), (1, 0), (1, 2), (2, 0), (2, 1)])
        self.check(THREE, [SHIFT, SHIFT], [])
        self.check(((1, 0, 2), (0, 1, 3)), [], [(0, 1), (0, 2), (2, 1)])
        self.check(((1, 0, 2), (0, 1, 3)), [SHIFT], [(0, 2), (2, 1)])

    def test_edges(self):
        self.check(((1,), (1,)), [], [])
        self.check(((1,), (1,)), [(0,)], [])
        self.check(((0, 0), (3, 3)), [], [])
        self.check(((3, 3), (0, 0)), [], [])
        self.check(TWO, [(0, 1)] * 3, [(0, 1), (1, 0)])


class JudgeFairness(unittest.TestCase):
    """[44]"""

    def check(self, sizes, plan, result):
        with self.subTest(sizes=sizes, plan=plan):
            found = Watched(self).call(judge_fairness, sizes, plan)
            self.assertEqual(found[:3], result)
            self.assertEqual(len(found), len(result) if found == ("fair",) else 4)
            if found != ("fair",):
                self.assertIsNone(check_board(found[3]))

    def test_example(self):
        self.check(TWO, [(1, 0)], ("fair",))

    def test_ordinary(self):
        self.check(TWO, [], ("unfair", 0, 1))
        self.check(THREE, [SHIFT], ("unfair", 0, 2))
        self.check(THREE, [SHIFT, SHIFT], ("fair",))

    def test_edges(self):
        self.check(((1,), (1,)), [], ("fair",))
        self.check(((0,), (0,)), [(0,)], ("fair",))
        self.check(((0, 0), (3, 3)), [], ("fair",))
        self.check(((3, 3), (0, 0)), [], ("fair",))
        self.check(((3, 0), (0, 0)), [], ("fair",))
        self.check(((0, 3), (2, 0)), [], ("unfair", 1, 0))
        self.check(TWO, [(0, 1)] * 3, ("unfair", 0, 1))


class RepeatsUntilFair(unittest.TestCase):
    """[46]"""

    def check(self, sizes, plan, result):
        with self.subTest(sizes=sizes, plan=plan):
            self.assertEqual(repr(Watched(self).call(repeats_until_fair, sizes, plan)), repr(result))

    def test_example(self):
        self.check(THREE, [SHIFT], 2)

    def test_fair_with_no_round(self):
        for plan in [[], [(1, 0)], [(0, 1)]]:
            self.check(((0, 0), (3, 3)), plan, 0)
            self.check(((3, 3), (0, 0)), plan, 0)
            self.check(((3, 0), (2, 0)), plan, 0)
        self.check(((1,), (1,)), [], 0)
        self.check(((1,), (1,)), [(0,)], 0)

    def test_never_fair(self):
        self.check(TWO, [], None)
        self.check(TWO, [(0, 1)], None)
        self.check(THREE, [(1, 0, 2)], None)

    def test_repetitions_are_counted_as_a_whole(self):
        self.check(TWO, [(1, 0), (0, 1)], 1)
        self.check(THREE, [SHIFT, (0, 1, 2)], 2)
        self.check(THREE, [(0, 1, 2), SHIFT], 2)
        self.check(THREE, [SHIFT, SHIFT], 1)
        self.check(THREE, [SHIFT, SHIFT, SHIFT], 1)
        self.check(((1, 0, 0), (0, 0, 1)), [SHIFT], 2)
        self.check(((1, 0, 0), (0, 1, 0)), [SHIFT], 1)


class WorstMisplacement(unittest.TestCase):
    """[47]"""

    def check(self, sizes, plan, number):
        with self.subTest(sizes=sizes, plan=plan):
            found = Watched(self).call(worst_misplacement, sizes, plan)
            self.assertIs(type(found), tuple)
            self.assertEqual(repr(found[0]), repr(number))
            self.assertIsNone(check_misplacement(sizes, plan, found))

    def test_example(self):
        self.check(((1, 1, 0, 0), (0, 0, 1, 1)), [], 2)

    def test_ordinary(self):
        self.check(TWO, [], 1)
        self.check(TWO, [(1, 0)], 0)
        self.check(((3, 0), (0, 2)), [], 2)
        self.check(((2, 0), (0, 3)), [], 2)
        self.check(((4, 0, 0), (0, 2, 1)), [], 3)
        self.check(((4, 0, 0), (0, 2, 1)), [(1, 0, 2)], 1)

    def test_edges(self):
        self.check(((1,), (1,)), [], 0)
        self.check(((0,), (0,)), [(0,)], 0)
        self.check(((0, 0), (3, 3)), [], 0)
        self.check(((3, 3), (0, 0)), [], 0)

    def test_a_place_counts_on_one_side_only(self):
        self.check(((3, 3), (3, 3)), [], 3)
        self.check(((1, 1, 1), (5, 5, 5)), [], 2)
        self.check(((5, 5, 5), (1, 1, 1)), [], 2)


class SettlingTime(unittest.TestCase):
    """[49]"""

    def check(self, sizes, plan, result):
        with self.subTest(sizes=sizes, plan=plan):
            found = Watched(self).call(settling_time, sizes, plan)
            self.assertEqual(len(found), 3)
            self.assertEqual(repr(found[:len(result)]), repr(result))

    def test_example(self):
        self.check(TWO, [], ("unfair", 0, 1))

    def test_ordinary(self):
        self.check(TWO, [(1, 0)], ("time", 1))
        self.check(TWO, [(0, 1), (1, 0), (1, 0)], ("time", 2))
        self.check(THREE, [SHIFT] * 5, ("time", 2))
        self.check(THREE, [SHIFT], ("unfair", 0, 2))
        self.check(((1, 0, 0), (0, 1, 0)), [SHIFT] * 5, ("time", 1))

    def test_fair_with_no_round(self):
        for plan in [[], [(1, 0)], [(0, 1)] * 4]:
            self.check(((0, 0), (3, 3)), plan, ("time", 0, None))
            self.check(((3, 3), (0, 0)), plan, ("time", 0, None))
        self.check(((1,), (1,)), [(0,)], ("time", 0, None))


class Errors(unittest.TestCase):
    """The errors of [43] to [49]."""

    def calls(self):
        for function in FUNCTIONS:
            yield function, ()
        for function in CHECKERS:
            for claim in [("fair",), (0, ((1, 1), ((0, 2), (1, 3)))), None, [], ("fair", 1), (0,), {}]:
                yield function, (claim,)

    def test_wrong_sizes(self):
        cases = BAD_SIZES + [(value, ("shape",)) for value in ANY_VALUES]
        for function, claims in self.calls():
            for sizes, reason in cases:
                for plan in [[], None, [(0,)]]:
                    with self.subTest(function=function.__name__, sizes=sizes, plan=plan):
                        error = raised(self, InvalidSizes, function, sizes, plan, *claims)
                        self.assertEqual(vars(error), {"reason": reason})

    def test_wrong_plan(self):
        cases = BAD_PLANS + [(value, ("plan",)) for value in NOT_LISTS] + [([[1, 0]], ("round", 0)), ([(1, 0), (1, 1)], ("round", 1))]
        for function, claims in self.calls():
            for sizes in [TWO, ((0, 0), (0, 0))]:
                for plan, reason in cases:
                    with self.subTest(function=function.__name__, sizes=sizes, plan=plan):
                        error = raised(self, InvalidPlan, function, sizes, plan, *claims)
                        self.assertEqual(vars(error), {"reason": reason})

    def test_order_of_the_errors(self):
        for function, claims in self.calls():
            raises_first(self, function, [sizes_choice(TWO), plan_choice([(1, 0)]), *[(claim, []) for claim in claims]])

    def test_arguments_by_name(self):
        board = ((1, 1), ((2, 3), (0, 1)))
        self.assertEqual(missed_visits(plan=[], sizes=TWO), [(0, 1), (1, 0)])
        self.assertEqual(judge_fairness(plan=[(1, 0)], sizes=TWO), ("fair",))
        self.assertEqual(check_fairness(claim=("fair",), plan=[], sizes=TWO), ("missed", 0, 1))
        self.assertEqual(repeats_until_fair(plan=[(1, 0)], sizes=TWO), 1)
        self.assertEqual(worst_misplacement(plan=[], sizes=TWO)[0], 1)
        self.assertIsNone(check_misplacement(claim=(1, board), plan=[], sizes=TWO))
        self.assertEqual(settling_time(plan=[], sizes=TWO), ("unfair", 0, 1))

    def test_plans_longer_than_the_limit(self):
        plan = [SHIFT, (2, 0, 1)] * 60 + [SHIFT]
        self.assertEqual(missed_visits(THREE, plan), [(0, 2), (1, 0), (2, 1)])
        self.assertEqual(judge_fairness(THREE, plan)[:3], ("unfair", 0, 2))
        self.assertEqual(worst_misplacement(THREE, plan)[0], 1)
        self.assertEqual(repeats_until_fair(THREE, plan), 2)
        self.assertEqual(settling_time(THREE, plan + [SHIFT])[:2], ("time", 122))
