import itertools
import unittest

from leastpass.boards import check_board
from leastpass.errors import InvalidBoard, InvalidPlan, InvalidRound
from leastpass.rounds import play, play_round
from tests.support import (
    ANY_VALUES, BAD_BOARDS, NOT_LISTS, NOT_NATURAL, NOT_TUPLES, Watched, all_owner_lists, all_sizes, raised,
    slow_board, slow_round, spread_board,
)

BOARD = ((1, 1), ((5, 7), (1, 3)))
THREE = ((1, 2, 0), ((4, 9), (0, 6, 8), (2, 5)))


class PlayRound(unittest.TestCase):
    """[26] and the definition of a round in [6]."""

    def check(self, board, permutation, result):
        with self.subTest(board=board, permutation=permutation):
            found = Watched(self).call(play_round, board, permutation)
            self.assertEqual(repr(found), repr(result))
            self.assertIsNone(check_board(found))

    def test_example(self):
        self.check(BOARD, (1, 0), ((1, 1), ((1, 7), (3, 5))))

    def test_one_place(self):
        self.check(((0,), ((),)), (0,), ((0,), ((),)))
        self.check(((0,), ((3, 8),)), (0,), ((0,), ((3, 8),)))
        self.check(((1,), ((3, 8),)), (0,), ((1,), ((3, 8),)))
        self.check(((2,), ((3, 8),)), (0,), ((2,), ((3, 8),)))

    def test_places_that_pass_to_themselves(self):
        self.check(BOARD, (0, 1), BOARD)
        self.check(THREE, (0, 1, 2), THREE)
        self.check(THREE, (2, 1, 0), ((0, 2, 1), ((9,), (0, 6, 8), (2, 4, 5))))

    def test_item_p_is_where_place_p_passes_to(self):
        self.check(THREE, (1, 2, 0), ((0, 1, 2), ((9,), (4, 8), (0, 2, 5, 6))))
        self.check(THREE, (2, 0, 1), ((2, 0, 1), ((0, 6, 9), (8,), (2, 4, 5))))

    def test_lots_of_zero_and_empty_hands(self):
        self.check(((0, 0), ((4,), (1, 2))), (1, 0), ((0, 0), ((4,), (1, 2))))
        self.check(((0, 0), ((), ())), (1, 0), ((0, 0), ((), ())))
        self.check(((2, 0), ((1, 2), ())), (1, 0), ((0, 2), ((), (1, 2))))
        self.check(((0, 1), ((), (6, 7))), (1, 0), ((1, 0), ((6,), (7,))))
        self.check(((2, 1), ((1, 2), (0,))), (1, 0), ((1, 2), ((0,), (1, 2))))

    def test_the_lowest_cards_are_passed(self):
        self.check(((2, 1), ((1, 5, 9, 10), (0, 6, 7))), (1, 0), ((1, 2), ((0, 9, 10), (1, 5, 6, 7))))

    def test_cards_are_ordered_as_numbers(self):
        self.check(((1, 1), ((9, 100), (10, 11))), (1, 0), ((1, 1), ((10, 100), (9, 11))))

    def test_small_boards(self):
        for places in [1, 2]:
            for sizes in all_sizes(places, 2):
                for owners in all_owner_lists(sizes):
                    board = slow_board(sizes, owners)
                    for permutation in itertools.permutations(range(places)):
                        self.assertEqual(play_round(board, permutation), slow_round(board, permutation))

    def test_three_places(self):
        for sizes in [((1, 0, 2), (1, 1, 0)), ((1, 1, 1), (1, 1, 1)), ((0, 2, 1), (2, 0, 1))]:
            for owners in all_owner_lists(sizes):
                board = slow_board(sizes, owners)
                for permutation in itertools.permutations(range(3)):
                    self.assertEqual(play_round(board, permutation), slow_round(board, permutation))

    def test_wrong_board(self):
        for value, reason in BAD_BOARDS + [(value, ("shape",)) for value in ANY_VALUES]:
            for permutation in [(0,), (1, 0), None]:
                with self.subTest(value=value, permutation=permutation):
                    self.assertEqual(raised(self, InvalidBoard, play_round, value, permutation).reason, reason)

    def test_wrong_round(self):
        cases = NOT_TUPLES + [(value, 0) for value in NOT_NATURAL] + [(0, value) for value in NOT_NATURAL]
        cases += [
            (), (0,), (0, 1, 2), (0, 0), (1, 1), (0, 2), (2, 0), (-1, 0), (1, -1), (1, -2), [1, 0], "10", [(1, 0)],
            (True, False), (1, False), (True, 0), (1.0, 0.0), (1, None), ("a", 0), ((1,), (0,)), ([1], [0]),
        ]
        for permutation in cases:
            with self.subTest(permutation=permutation):
                error = raised(self, InvalidRound, play_round, BOARD, permutation)
                self.assertEqual(vars(error), {})

    def test_boolean_as_the_only_place(self):
        raised(self, InvalidRound, play_round, ((0,), ((3,),)), (False,))

    def test_arguments_by_name(self):
        self.assertEqual(play_round(permutation=(1, 0), board=BOARD), ((1, 1), ((1, 7), (3, 5))))


class Play(unittest.TestCase):
    """[27]"""

    def check(self, board, plan, result):
        with self.subTest(board=board, plan=plan):
            found = Watched(self).call(play, board, plan)
            self.assertEqual(repr(found), repr(result))
            self.assertIsNone(check_board(found))

    def test_example(self):
        self.check(BOARD, [(1, 0), (1, 0)], ((1, 1), ((3, 7), (1, 5))))

    def test_empty_plan(self):
        self.check(BOARD, [], BOARD)
        self.check(THREE, [], THREE)
        self.check(((0,), ((),)), [], ((0,), ((),)))

    def test_one_round(self):
        self.check(BOARD, [(1, 0)], ((1, 1), ((1, 7), (3, 5))))
        self.check(BOARD, [(0, 1)], BOARD)

    def test_one_place(self):
        self.check(((1,), ((3, 8),)), [(0,), (0,)], ((1,), ((3, 8),)))

    def test_rounds_are_played_in_order(self):
        self.check(THREE, [(1, 0, 2), (0, 2, 1)], ((2, 0, 1), ((0, 6, 9), (8,), (2, 4, 5))))
        self.check(THREE, [(0, 2, 1), (1, 0, 2)], ((0, 1, 2), ((9,), (4, 8), (0, 2, 5, 6))))

    def test_all_short_plans(self):
        rounds = list(itertools.permutations(range(3)))
        boards = [THREE, ((1, 1, 1), ((5, 6), (3, 4), (1, 2))), ((2, 0, 1), ((7, 8), (0, 1), (4, 5, 6)))]
        for board in boards:
            for length in range(4):
                for plan in itertools.product(rounds, repeat=length):
                    expected = board
                    for permutation in plan:
                        expected = slow_round(expected, permutation)
                    self.assertEqual(play(board, list(plan)), expected)

    def test_up_to_the_limits_and_somewhat_beyond(self):
        for places, lot, size in [(12, 7, 24), (12, 24, 24), (13, 11, 30)]:
            board = expected = spread_board(places, lot, size, 5)
            shift = tuple(range(1, places)) + (0,)
            flip = tuple(reversed(range(places)))
            plan = [shift, flip, shift] * 14
            for permutation in plan:
                expected = slow_round(expected, permutation)
            self.assertIsNone(check_board(board))
            self.assertEqual(play(board, plan), expected)

    def test_plan_may_hold_the_same_round_often(self):
        permutation = (1, 2, 0)
        expected = THREE
        for _ in range(40):
            expected = slow_round(expected, permutation)
        self.check(THREE, [permutation] * 40, expected)

    def test_result_does_not_follow_the_plan(self):
        plan = [(1, 0)]
        result = play(BOARD, plan)
        plan.append((1, 0))
        self.assertEqual(result, ((1, 1), ((1, 7), (3, 5))))

    def test_wrong_board(self):
        for value, reason in BAD_BOARDS + [(value, ("shape",)) for value in ANY_VALUES]:
            for plan in [[], [(0,)], None, [None]]:
                with self.subTest(value=value, plan=plan):
                    self.assertEqual(raised(self, InvalidBoard, play, value, plan).reason, reason)

    def test_wrong_plan(self):
        cases = [(value, ("plan",)) for value in NOT_LISTS] + [
            ((), ("plan",)),
            (((1, 0),), ("plan",)),
            ((1, 0), ("plan",)),
            ([[1, 0]], ("round", 0)),
            ([(1, 0), (0, 0)], ("round", 1)),
            ([(1, 0), (0, 1, 2), (0, 0)], ("round", 1)),
            ([(1, 0), (1, 0), (1, False)], ("round", 2)),
            ([(True, 0)], ("round", 0)),
            ([(0,)], ("round", 0)),
            ([(0, 2)], ("round", 0)),
            ([(-1, 0)], ("round", 0)),
            ([None], ("round", 0)),
            ([(1, "a")], ("round", 0)),
        ]
        for plan, reason in cases:
            with self.subTest(plan=plan):
                self.assertEqual(raised(self, InvalidPlan, play, BOARD, plan).reason, reason)

    def test_arguments_by_name(self):
        self.assertEqual(play(plan=[(1, 0)], board=BOARD), ((1, 1), ((1, 7), (3, 5))))
