import importlib
import inspect
import unittest

from leastpass.boards import card_owners, check_board, check_plan, check_sizes, deal_board, sizes_of
from leastpass.errors import (
    InvalidBoard, InvalidCard, InvalidCount, InvalidDeal, InvalidPlan, InvalidProfile, InvalidRepeats, InvalidRound,
    InvalidSizes,
)
from leastpass.rounds import play, play_round
from leastpass.settling import is_settled, low_cards, rounds_to_settle
from leastpass.thresholds import counts_at_most, play_counts
from leastpass.tracking import final_locations, locate_card, play_repeated, track_card
from leastpass.visits import first_visits, first_visits_forever, load_positions
from tests.support import raised

# The part of the section "The interface" that has landed.
FUNCTIONS = {
    "leastpass.boards": {
        "check_board": ["value"],
        "check_sizes": ["value"],
        "check_plan": ["places", "value"],
        "sizes_of": ["board"],
        "card_owners": ["board"],
        "deal_board": ["sizes", "owners"],
    },
    "leastpass.rounds": {
        "play_round": ["board", "permutation"],
        "play": ["board", "plan"],
    },
    "leastpass.thresholds": {
        "play_counts": ["lots", "counts", "plan"],
        "counts_at_most": ["board", "threshold"],
    },
    "leastpass.tracking": {
        "track_card": ["board", "plan", "card"],
        "play_repeated": ["board", "plan", "repeats"],
        "locate_card": ["board", "plan", "card", "repeats"],
        "final_locations": ["board", "plan"],
    },
    "leastpass.settling": {
        "low_cards": ["board"],
        "is_settled": ["board"],
        "rounds_to_settle": ["board", "plan"],
    },
    "leastpass.visits": {
        "load_positions": ["places", "plan"],
        "first_visits": ["places", "plan"],
        "first_visits_forever": ["places", "plan"],
    },
}

BOARD = ((1, 1), ((5, 7), (1, 3)))
BOARD_ERRORS = [
    (((1, True), ((5, 7), (1, 3))), InvalidBoard),
    (((1, 1), ((5, 7), (True, 3))), InvalidBoard),
    (((1.0, 1), ((5, 7), (1, 3))), InvalidBoard),
    (((1, 1), ((5, 7.0), (1, 3))), InvalidBoard),
]
PLAN_ERRORS = [([(True, 0)], InvalidPlan), ([(1, False)], InvalidPlan), ([(1, 0.0)], InvalidPlan)]
CARD_ERRORS = [(True, InvalidCard), (1.0, InvalidCard)]
REPEATS_ERRORS = [(True, InvalidRepeats), (1.0, InvalidRepeats)]
# Each parameter with a right argument, and with equal values of other types that are wrong.
EQUAL_ARGUMENTS = [
    (play_counts, [
        ((1, 0), [((True, 0), InvalidProfile), ((1, False), InvalidProfile), ((1.0, 0), InvalidProfile)]),
        ((0, 1), [((False, 1), InvalidProfile), ((0, True), InvalidProfile), ((0, 1.0), InvalidProfile)]),
        ([(1, 0)], PLAN_ERRORS),
    ]),
    (counts_at_most, [(BOARD, BOARD_ERRORS), (1, [(True, InvalidCount), (1.0, InvalidCount)])]),
    (counts_at_most, [(BOARD, BOARD_ERRORS), (0, [(False, InvalidCount), (0.0, InvalidCount), (-0.0, InvalidCount)])]),
    (track_card, [(BOARD, BOARD_ERRORS), ([(1, 0)], PLAN_ERRORS), (1, CARD_ERRORS)]),
    (play_repeated, [(BOARD, BOARD_ERRORS), ([(1, 0)], PLAN_ERRORS), (1, REPEATS_ERRORS)]),
    (play_repeated, [(BOARD, []), ([(1, 0)], []), (0, [(False, InvalidRepeats), (0.0, InvalidRepeats)])]),
    (locate_card, [(BOARD, BOARD_ERRORS), ([(1, 0)], PLAN_ERRORS), (1, CARD_ERRORS), (1, REPEATS_ERRORS)]),
    (locate_card, [(BOARD, []), ([(1, 0)], []), (1, []), (0, [(False, InvalidRepeats), (0.0, InvalidRepeats)])]),
    (final_locations, [(BOARD, BOARD_ERRORS), ([(1, 0)], PLAN_ERRORS)]),
    (low_cards, [(BOARD, BOARD_ERRORS)]),
    (is_settled, [(BOARD, BOARD_ERRORS)]),
    (rounds_to_settle, [(BOARD, BOARD_ERRORS), ([(1, 0)], PLAN_ERRORS)]),
    (load_positions, [(2, [(2.0, InvalidCount)]), ([(1, 0)], PLAN_ERRORS)]),
    (load_positions, [(1, [(True, InvalidCount)]), ([(0,)], [([(False,)], InvalidPlan)])]),
    (first_visits, [(2, [(2.0, InvalidCount)]), ([(1, 0)], PLAN_ERRORS)]),
    (first_visits, [(1, [(True, InvalidCount)]), ([(0,)], [([(False,)], InvalidPlan)])]),
    (first_visits_forever, [(2, [(2.0, InvalidCount)]), ([(1, 0)], PLAN_ERRORS)]),
    (first_visits_forever, [(1, [(True, InvalidCount)]), ([(0,)], [([(False,)], InvalidPlan)])]),
]


class Interface(unittest.TestCase):
    def test_functions(self):
        for module, functions in FUNCTIONS.items():
            for name, names in functions.items():
                with self.subTest(module=module, function=name):
                    function = getattr(importlib.import_module(module), name)
                    self.assertTrue(inspect.isfunction(function))
                    self.assertEqual(function.__module__, module)
                    parameters = inspect.signature(function).parameters.values()
                    self.assertEqual([parameter.name for parameter in parameters], names)
                    for parameter in parameters:
                        self.assertIs(parameter.kind, inspect.Parameter.POSITIONAL_OR_KEYWORD)
                        self.assertIs(parameter.default, inspect.Parameter.empty)


class Types(unittest.TestCase):
    """[2]: a result depends on the types of the arguments, also after an equal argument."""

    def test_equal_values_of_other_types(self):
        for _ in range(2):
            self.assertIsNone(check_board(((1, 0), ((0, 1), (2,)))))
            self.assertEqual(check_board(((True, 0), ((0, 1), (2,)))), ("lot", 0))
            self.assertEqual(check_board(((1, False), ((0, 1), (2,)))), ("lot", 1))
            self.assertEqual(check_board(((1.0, 0), ((0, 1), (2,)))), ("lot", 0))
            self.assertEqual(check_board(((1, 0), ((0, True), (2,)))), ("hand", 0))
            self.assertEqual(check_board(((1, 0), ((0, 1), (2.0,)))), ("hand", 1))
            self.assertIsNone(check_sizes(((1, 0), (0, 1))))
            self.assertEqual(check_sizes(((1, 0.0), (0, 1))), ("lot", 1))
            self.assertEqual(check_sizes(((1, 0), (0, True))), ("base", 1))
            self.assertIsNone(check_plan(1, [(0,)]))
            self.assertEqual(check_plan(1, [(False,)]), ("round", 0))
            self.assertEqual(check_plan(1, [(0.0,)]), ("round", 0))
            raised(self, InvalidCount, check_plan, True, [(0,)])
            raised(self, InvalidCount, check_plan, 1.0, [(0,)])

    def test_equal_arguments_of_other_types(self):
        board = ((1, 1), ((5, 7), (1, 3)))
        for _ in range(2):
            self.assertEqual(play_round(board, (1, 0)), ((1, 1), ((1, 7), (3, 5))))
            raised(self, InvalidRound, play_round, board, (True, False))
            raised(self, InvalidBoard, play_round, ((1, True), ((5, 7), (1, 3))), (1, 0))
            self.assertEqual(play(board, [(1, 0)]), ((1, 1), ((1, 7), (3, 5))))
            raised(self, InvalidPlan, play, board, [(1, False)])
            raised(self, InvalidBoard, play, ((1, 1), ((5, 7), (True, 3))), [(1, 0)])
            self.assertEqual(deal_board(((1, 1), (0, 0)), [1, 0]), ((1, 1), ((1,), (0,))))
            raised(self, InvalidDeal, deal_board, ((1, 1), (0, 0)), [True, 0])
            raised(self, InvalidSizes, deal_board, ((1, True), (0, 0)), [1, 0])
            self.assertEqual(sizes_of(board), ((1, 1), (1, 1)))
            raised(self, InvalidBoard, sizes_of, ((True, 1), ((5, 7), (1, 3))))
            self.assertEqual(card_owners(board), [1, 1, 0, 0])
            raised(self, InvalidBoard, card_owners, ((1, 1), ((5, 7), (True, 3))))

    def test_each_parameter(self):
        for function, parameters in EQUAL_ARGUMENTS:
            right = [argument for argument, _ in parameters]
            accepted = function(*right)
            for at, (_, cases) in enumerate(parameters):
                for argument, error in cases:
                    with self.subTest(function=function.__name__, argument=argument):
                        self.assertEqual(argument, right[at])
                        for _ in range(2):
                            raised(self, error, function, *right[:at], argument, *right[at + 1:])
                            self.assertEqual(repr(function(*right)), repr(accepted))
