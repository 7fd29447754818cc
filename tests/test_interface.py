import importlib
import inspect
import unittest

from leastpass.boards import card_owners, check_board, check_plan, check_sizes, deal_board, sizes_of
from leastpass.errors import (
    InvalidBoard, InvalidCount, InvalidDeal, InvalidPlan, InvalidRound, InvalidSizes,
)
from leastpass.rounds import play, play_round
from tests.support import raised

# The part of the section "The interface" that has landed.
FUNCTIONS = {
    "leastpass.boards": {
        "check_board": ["value"],
        "check_sizes": ["value"],
        "check_plan": ["places", "value"],
        "sizes_of": ["board"],
        "card_owners": ["board"],
        "deal_board": ["sizes", "owners"],
    },
    "leastpass.rounds": {
        "play_round": ["board", "permutation"],
        "play": ["board", "plan"],
    },
}


class Interface(unittest.TestCase):
    def test_functions(self):
        for module, functions in FUNCTIONS.items():
            for name, names in functions.items():
                with self.subTest(module=module, function=name):
                    function = getattr(importlib.import_module(module), name)
                    self.assertTrue(inspect.isfunction(function))
                    self.assertEqual(function.__module__, module)
                    parameters = inspect.signature(function).parameters.values()
                    self.assertEqual([parameter.name for parameter in parameters], names)
                    for parameter in parameters:
                        self.assertIs(parameter.kind, inspect.Parameter.POSITIONAL_OR_KEYWORD)
                        self.assertIs(parameter.default, inspect.Parameter.empty)


class Types(unittest.TestCase):
    """[2]: a result depends on the types of the arguments, also after an equal argument."""

    def test_equal_values_of_other_types(self):
        for _ in range(2):
            self.assertIsNone(check_board(((1, 0), ((0, 1), (2,)))))
            self.assertEqual(check_board(((True, 0), ((0, 1), (2,)))), ("lot", 0))
            self.assertEqual(check_board(((1, False), ((0, 1), (2,)))), ("lot", 1))
            self.assertEqual(check_board(((1.0, 0), ((0, 1), (2,)))), ("lot", 0))
            self.assertEqual(check_board(((1, 0), ((0, True), (2,)))), ("hand", 0))
            self.assertEqual(check_board(((1, 0), ((0, 1), (2.0,)))), ("hand", 1))
            self.assertIsNone(check_sizes(((1, 0), (0, 1))))
            self.assertEqual(check_sizes(((1, 0.0), (0, 1))), ("lot", 1))
            self.assertEqual(check_sizes(((1, 0), (0, True))), ("base", 1))
            self.assertIsNone(check_plan(1, [(0,)]))
            self.assertEqual(check_plan(1, [(False,)]), ("round", 0))
            self.assertEqual(check_plan(1, [(0.0,)]), ("round", 0))
            raised(self, InvalidCount, check_plan, True, [(0,)])
            raised(self, InvalidCount, check_plan, 1.0, [(0,)])

    def test_equal_arguments_of_other_types(self):
        board = ((1, 1), ((5, 7), (1, 3)))
        for _ in range(2):
            self.assertEqual(play_round(board, (1, 0)), ((1, 1), ((1, 7), (3, 5))))
            raised(self, InvalidRound, play_round, board, (True, False))
            raised(self, InvalidBoard, play_round, ((1, True), ((5, 7), (1, 3))), (1, 0))
            self.assertEqual(play(board, [(1, 0)]), ((1, 1), ((1, 7), (3, 5))))
            raised(self, InvalidPlan, play, board, [(1, False)])
            raised(self, InvalidBoard, play, ((1, 1), ((5, 7), (True, 3))), [(1, 0)])
            self.assertEqual(deal_board(((1, 1), (0, 0)), [1, 0]), ((1, 1), ((1,), (0,))))
            raised(self, InvalidDeal, deal_board, ((1, 1), (0, 0)), [True, 0])
            raised(self, InvalidSizes, deal_board, ((1, True), (0, 0)), [1, 0])
            self.assertEqual(sizes_of(board), ((1, 1), (1, 1)))
            raised(self, InvalidBoard, sizes_of, ((True, 1), ((5, 7), (1, 3))))
            self.assertEqual(card_owners(board), [1, 1, 0, 0])
            raised(self, InvalidBoard, card_owners, ((1, 1), ((5, 7), (True, 3))))
