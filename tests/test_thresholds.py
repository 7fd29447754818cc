import itertools
import unittest

from leastpass.errors import InvalidBoard, InvalidCount, InvalidPlan, InvalidProfile
from leastpass.rounds import play
from leastpass.thresholds import counts_at_most, play_counts
from tests.support import (
    ANY_VALUES, BAD_BOARDS, NOT_LISTS, NOT_NATURAL, NOT_TUPLES, NOT_WHOLE, Watched, large_boards_and_plans, raised,
    raises_first, slow_boards, some_boards_and_plans,
)

BOARD = ((1, 1), ((5, 7), (1, 3)))


def slow_counts(lots, counts, plan):
    """The formula of [30], for each place that is passed to."""
    for permutation in plan:
        places = range(len(lots))
        givers = [permutation.index(place) for place in places]
        new_counts = [
            max(0, counts[place] - lots[place]) + min(counts[givers[place]], lots[givers[place]]) for place in places
        ]
        lots, counts = tuple([lots[giver] for giver in givers]), tuple(new_counts)
    return lots, counts


class PlayCounts(unittest.TestCase):
    """[30]"""

    def check(self, lots, counts, plan, result):
        with self.subTest(lots=lots, counts=counts, plan=plan):
            found = Watched(self).call(play_counts, lots, counts, plan)
            self.assertEqual(repr(found), repr(result))

    def test_example(self):
        self.check((1, 1), (0, 2), [(1, 0)], ((1, 1), (1, 1)))

    def test_empty_plan(self):
        self.check((1, 1), (0, 2), [], ((1, 1), (0, 2)))
        self.check((0,), (0,), [], ((0,), (0,)))
        self.check((3,), (1,), [], ((3,), (1,)))

    def test_one_place(self):
        self.check((0,), (0,), [(0,)], ((0,), (0,)))
        self.check((0,), (4,), [(0,)], ((0,), (4,)))
        self.check((3,), (1,), [(0,)], ((3,), (1,)))
        self.check((3,), (5,), [(0,), (0,)], ((3,), (5,)))

    def test_places_that_pass_to_themselves(self):
        self.check((1, 2, 4), (3, 2, 1), [(0, 1, 2)], ((1, 2, 4), (3, 2, 1)))
        self.check((1, 2, 4), (3, 5, 1), [(1, 0, 2)], ((2, 1, 4), (4, 4, 1)))

    def test_lots_move_with_the_cards(self):
        self.check((1, 2, 4), (0, 0, 0), [(1, 2, 0)], ((4, 1, 2), (0, 0, 0)))
        self.check((1, 2, 4), (3, 5, 6), [(1, 2, 0)], ((4, 1, 2), (6, 4, 4)))
        self.check((1, 2, 4), (3, 5, 6), [(1, 2, 0), (1, 2, 0)], ((2, 4, 1), (4, 7, 3)))

    def test_counts_below_at_and_above_the_lots(self):
        self.check((2, 3), (1, 2), [(1, 0)], ((3, 2), (2, 1)))
        self.check((2, 3), (2, 3), [(1, 0)], ((3, 2), (3, 2)))
        self.check((2, 3), (3, 4), [(1, 0)], ((3, 2), (4, 3)))
        self.check((2, 3), (0, 9), [(1, 0)], ((3, 2), (3, 6)))
        self.check((0, 0), (4, 9), [(1, 0)], ((0, 0), (4, 9)))

    def test_rounds_are_played_in_order(self):
        self.check((1, 2, 0), (2, 1, 3), [(1, 0, 2), (0, 2, 1)], ((2, 0, 1), (2, 0, 4)))
        self.check((1, 2, 0), (2, 1, 3), [(0, 2, 1), (1, 0, 2)], ((0, 1, 2), (1, 1, 4)))

    def test_formula(self):
        rows = list(itertools.product(range(3), repeat=2))
        for lots, counts in itertools.product(rows, repeat=2):
            for plan in [[], [(0, 1)], [(1, 0)], [(1, 0), (1, 0)], [(1, 0), (0, 1), (1, 0)]]:
                self.assertEqual(play_counts(lots, counts, plan), slow_counts(lots, counts, plan))
        for lots, counts in itertools.product(itertools.permutations(range(4), 3), itertools.product([0, 1, 5], repeat=3)):
            for plan in [[(1, 2, 0)], [(2, 1, 0)], [(2, 0, 1), (0, 2, 1)]]:
                self.assertEqual(play_counts(lots, counts, plan), slow_counts(lots, counts, plan))

    def test_every_threshold_of_a_played_board(self):
        for board, plan in some_boards_and_plans():
            played = slow_boards(board, plan)[-1]
            cards = [card for hand in board[1] for card in hand]
            for threshold in {-1, *cards, *[card - 1 for card in cards], *[card + 1 for card in cards]}:
                counts = counts_at_most(board, threshold)
                expected = (played[0], counts_at_most(played, threshold))
                self.assertEqual(play_counts(board[0], counts, plan), expected)

    def test_up_to_the_limits_and_somewhat_beyond(self):
        for board, plan in large_boards_and_plans():
            played = play(board, plan)
            for threshold in [-1, 0, 999, 123456789, 500000000, 999999999]:
                counts = counts_at_most(board, threshold)
                self.assertEqual(play_counts(board[0], counts, plan), (played[0], counts_at_most(played, threshold)))
        many = 10 ** 40
        self.check((many, 1), (many + 3, many), [(1, 0)], ((1, many), (4, 2 * many - 1)))

    def test_results_do_not_follow_the_plan(self):
        plan = [(1, 0)]
        result = play_counts((1, 1), (0, 2), plan)
        plan.append((1, 0))
        self.assertEqual(result, ((1, 1), (1, 1)))

    def test_wrong_lots(self):
        cases = NOT_TUPLES + [(), [1, 1], ((1, 1),), (1, (1,))]
        cases += [(value, 1) for value in NOT_NATURAL] + [(1, value) for value in NOT_NATURAL]
        cases += [(value,) for value in NOT_NATURAL]
        for lots in cases:
            for counts, plan in [((0, 2), [(1, 0)]), ((0,), []), (None, None), ((), [])]:
                with self.subTest(lots=lots, counts=counts, plan=plan):
                    error = raised(self, InvalidProfile, play_counts, lots, counts, plan)
                    self.assertEqual(vars(error), {"reason": ("lots",)})

    def test_wrong_counts(self):
        cases = NOT_TUPLES + [(), (0,), (0, 2, 0), [0, 2], ((0, 2),), (0, (2,))]
        cases += [(value, 1) for value in NOT_NATURAL] + [(1, value) for value in NOT_NATURAL]
        for counts in cases:
            for plan in [[(1, 0)], [], None, [(0,)]]:
                with self.subTest(counts=counts, plan=plan):
                    error = raised(self, InvalidProfile, play_counts, (1, 1), counts, plan)
                    self.assertEqual(vars(error), {"reason": ("counts",)})

    def test_wrong_plan(self):
        cases = [(value, ("plan",)) for value in NOT_LISTS] + [
            (((1, 0),), ("plan",)),
            ([(0,)], ("round", 0)),
            ([(0, 1, 2)], ("round", 0)),
            ([(1, 0), (0, 0)], ("round", 1)),
            ([(1, 0), (1, False)], ("round", 1)),
            ([[1, 0]], ("round", 0)),
        ]
        for plan, reason in cases:
            with self.subTest(plan=plan):
                error = raised(self, InvalidPlan, play_counts, (1, 1), (0, 2), plan)
                self.assertEqual(vars(error), {"reason": reason})

    def test_order_of_the_errors(self):
        raises_first(self, play_counts, [
            ((1, 1), [((1, True), (InvalidProfile, {"reason": ("lots",)})), ((), (InvalidProfile, {"reason": ("lots",)}))]),
            ((0, 2), [((0,), (InvalidProfile, {"reason": ("counts",)})), (None, (InvalidProfile, {"reason": ("counts",)}))]),
            ([(1, 0)], [((), (InvalidPlan, {"reason": ("plan",)})), ([(0,)], (InvalidPlan, {"reason": ("round", 0)}))]),
        ])

    def test_arguments_by_name(self):
        self.assertEqual(play_counts(plan=[(1, 0)], counts=(0, 2), lots=(1, 1)), ((1, 1), (1, 1)))


class CountsAtMost(unittest.TestCase):
    """[31]"""

    def check(self, board, threshold, result):
        with self.subTest(board=board, threshold=threshold):
            found = Watched(self).call(counts_at_most, board, threshold)
            self.assertEqual(repr(found), repr(result))

    def test_example(self):
        self.check(BOARD, 4, (0, 2))

    def test_thresholds_at_and_beside_the_cards(self):
        for threshold, result in enumerate([
            (0, 0), (0, 1), (0, 1), (0, 2), (0, 2), (1, 2), (1, 2), (2, 2), (2, 2),
        ]):
            self.check(BOARD, threshold, result)

    def test_negative_and_large_thresholds(self):
        for threshold in [-1, -2, -10 ** 60]:
            self.check(BOARD, threshold, (0, 0))
            self.check(((0,), ((0,),)), threshold, (0,))
        self.check(BOARD, 10 ** 60, (2, 2))
        self.check(((0,), ((0,),)), 0, (1,))

    def test_edges(self):
        self.check(((0,), ((),)), 5, (0,))
        self.check(((0, 0, 0), ((), (2,), (0, 9))), 2, (0, 1, 1))
        self.check(((2, 0, 1), ((4, 5, 6), (), (1, 2))), 5, (2, 0, 2))
        self.check(((0, 0), ((999999999,), (999999998,))), 999999998, (0, 1))

    def test_cards_of_some_boards(self):
        for board, _ in some_boards_and_plans():
            for threshold in range(-1, 12):
                expected = tuple(sum(card <= threshold for card in hand) for hand in board[1])
                self.assertEqual(counts_at_most(board, threshold), expected)

    def test_wrong_board(self):
        for value, reason in BAD_BOARDS + [(value, ("shape",)) for value in ANY_VALUES]:
            for threshold in [4, None]:
                with self.subTest(value=value, threshold=threshold):
                    error = raised(self, InvalidBoard, counts_at_most, value, threshold)
                    self.assertEqual(vars(error), {"reason": reason})

    def test_wrong_threshold(self):
        for threshold in NOT_WHOLE + [4.0, "4", (4,)]:
            with self.subTest(threshold=threshold):
                self.assertEqual(vars(raised(self, InvalidCount, counts_at_most, BOARD, threshold)), {})

    def test_order_of_the_errors(self):
        raises_first(self, counts_at_most, [
            (BOARD, [(value, (InvalidBoard, {"reason": reason})) for value, reason in BAD_BOARDS]),
            (1, [(True, (InvalidCount, {})), (None, (InvalidCount, {})), (1.0, (InvalidCount, {}))]),
        ])

    def test_arguments_by_name(self):
        self.assertEqual(counts_at_most(threshold=4, board=BOARD), (0, 2))
