import importlib
import inspect
import unittest

from leastpass.boards import card_owners, check_board, check_plan, check_sizes, deal_board, sizes_of
from leastpass.counting import (
    card_probability, count_deals, count_last_rounds, count_reachable, count_sources, count_unsettled, last_round_at,
    last_round_index, source_at, source_index,
)
from leastpass.errors import (
    IndexTooLarge, InvalidBoard, InvalidCard, InvalidCount, InvalidDeal, InvalidPairs, InvalidPlace, InvalidPlan,
    InvalidProfile, InvalidRepeats, InvalidRound, InvalidSizes,
)
from leastpass.fairness import (
    check_fairness, check_misplacement, judge_fairness, missed_visits, repeats_until_fair, settling_time,
    worst_misplacement,
)
from leastpass.games import Game
from leastpass.repairs import check_repair, fewest_rounds, repair_plan
from leastpass.rounds import play, play_round
from leastpass.settling import is_settled, low_cards, rounds_to_settle
from leastpass.signatures import check_comparison, compare_plans, plan_signature
from leastpass.sources import check_source, find_source, return_time, send_home
from leastpass.thresholds import counts_at_most, play_counts
from leastpass.tracking import final_locations, locate_card, play_repeated, track_card
from leastpass.visit_plans import check_visit_plan, plan_with_visits
from leastpass.visits import first_visits, first_visits_forever, load_positions
from tests.support import raised

# The functions in the section "The interface".
FUNCTIONS = {
    "leastpass.boards": {
        "check_board": ["value"],
        "check_sizes": ["value"],
        "check_plan": ["places", "value"],
        "sizes_of": ["board"],
        "card_owners": ["board"],
        "deal_board": ["sizes", "owners"],
    },
    "leastpass.rounds": {
        "play_round": ["board", "permutation"],
        "play": ["board", "plan"],
    },
    "leastpass.thresholds": {
        "play_counts": ["lots", "counts", "plan"],
        "counts_at_most": ["board", "threshold"],
    },
    "leastpass.tracking": {
        "track_card": ["board", "plan", "card"],
        "play_repeated": ["board", "plan", "repeats"],
        "locate_card": ["board", "plan", "card", "repeats"],
        "final_locations": ["board", "plan"],
    },
    "leastpass.settling": {
        "low_cards": ["board"],
        "is_settled": ["board"],
        "rounds_to_settle": ["board", "plan"],
    },
    "leastpass.visits": {
        "load_positions": ["places", "plan"],
        "first_visits": ["places", "plan"],
        "first_visits_forever": ["places", "plan"],
    },
    "leastpass.fairness": {
        "missed_visits": ["sizes", "plan"],
        "judge_fairness": ["sizes", "plan"],
        "check_fairness": ["sizes", "plan", "claim"],
        "repeats_until_fair": ["sizes", "plan"],
        "worst_misplacement": ["sizes", "plan"],
        "check_misplacement": ["sizes", "plan", "claim"],
        "settling_time": ["sizes", "plan"],
    },
    "leastpass.repairs": {
        "repair_plan": ["sizes", "plan"],
        "check_repair": ["sizes", "plan", "claim"],
        "fewest_rounds": ["sizes"],
    },
    "leastpass.visit_plans": {
        "plan_with_visits": ["places", "pairs"],
        "check_visit_plan": ["places", "pairs", "claim"],
    },
    "leastpass.sources": {
        "send_home": ["board", "plan"],
        "find_source": ["board", "plan"],
        "check_source": ["board", "plan", "claim"],
        "return_time": ["board", "plan"],
    },
    "leastpass.signatures": {
        "plan_signature": ["sizes", "plan"],
        "compare_plans": ["sizes", "first", "second"],
        "check_comparison": ["sizes", "first", "second", "claim"],
    },
    "leastpass.counting": {
        "count_sources": ["board", "plan"],
        "source_at": ["board", "plan", "index"],
        "source_index": ["board", "plan", "source"],
        "count_deals": ["sizes"],
        "count_unsettled": ["sizes", "plan"],
        "count_reachable": ["sizes", "plan"],
        "card_probability": ["sizes", "plan", "card", "start", "end"],
        "count_last_rounds": ["board"],
        "last_round_at": ["board", "index"],
        "last_round_index": ["board", "permutation"],
    },
}
# What the interface lists for the class Game of leastpass.games; "plan" of Game is passed by name alone.
METHODS = {
    "apply": ["plan"],
    "apply_round": ["permutation"],
    "send_home": [],
    "undo": [],
    "board": [],
    "rounds": [],
    "copy": [],
    "__len__": [],
    "__eq__": ["other"],
}

BOARD = ((1, 1), ((5, 7), (1, 3)))
# It has two sources, and two rounds may have been the last.
REACHED = ((1, 1), ((1, 4), (2, 3)))
BOARD_ERRORS = [
    (((1, True), ((5, 7), (1, 3))), InvalidBoard),
    (((1, 1), ((5, 7), (True, 3))), InvalidBoard),
    (((1.0, 1), ((5, 7), (1, 3))), InvalidBoard),
    (((1, 1), ((5, 7.0), (1, 3))), InvalidBoard),
]
SIZES = ((1, 1), (1, 0))
SIZES_ERRORS = [
    (((1, True), (1, 0)), InvalidSizes),
    (((1, 1), (True, 0)), InvalidSizes),
    (((1, 1), (1, False)), InvalidSizes),
    (((1, 1.0), (1, 0)), InvalidSizes),
]
PLAN_ERRORS = [([(True, 0)], InvalidPlan), ([(1, False)], InvalidPlan), ([(1, 0.0)], InvalidPlan)]
CARD_ERRORS = [(True, InvalidCard), (1.0, InvalidCard)]
PAIRS_ERRORS = [([(0, True)], InvalidPairs), ([(False, 1)], InvalidPairs), ([(0, 1.0)], InvalidPairs)]
INDEX_ERRORS = [(True, IndexTooLarge), (1.0, IndexTooLarge)]
REPEATS_ERRORS = [(True, InvalidRepeats), (1.0, InvalidRepeats)]
# Each parameter with a right argument, and with equal values of other types that are wrong.
EQUAL_ARGUMENTS = [
    (play_counts, [
        ((1, 0), [((True, 0), InvalidProfile), ((1, False), InvalidProfile), ((1.0, 0), InvalidProfile)]),
        ((0, 1), [((False, 1), InvalidProfile), ((0, True), InvalidProfile), ((0, 1.0), InvalidProfile)]),
        ([(1, 0)], PLAN_ERRORS),
    ]),
    (counts_at_most, [(BOARD, BOARD_ERRORS), (1, [(True, InvalidCount), (1.0, InvalidCount)])]),
    (counts_at_most, [(BOARD, BOARD_ERRORS), (0, [(False, InvalidCount), (0.0, InvalidCount), (-0.0, InvalidCount)])]),
    (track_card, [(BOARD, BOARD_ERRORS), ([(1, 0)], PLAN_ERRORS), (1, CARD_ERRORS)]),
    (play_repeated, [(BOARD, BOARD_ERRORS), ([(1, 0)], PLAN_ERRORS), (1, REPEATS_ERRORS)]),
    (play_repeated, [(BOARD, []), ([(1, 0)], []), (0, [(False, InvalidRepeats), (0.0, InvalidRepeats)])]),
    (locate_card, [(BOARD, BOARD_ERRORS), ([(1, 0)], PLAN_ERRORS), (1, CARD_ERRORS), (1, REPEATS_ERRORS)]),
    (locate_card, [(BOARD, []), ([(1, 0)], []), (1, []), (0, [(False, InvalidRepeats), (0.0, InvalidRepeats)])]),
    (final_locations, [(BOARD, BOARD_ERRORS), ([(1, 0)], PLAN_ERRORS)]),
    (low_cards, [(BOARD, BOARD_ERRORS)]),
    (is_settled, [(BOARD, BOARD_ERRORS)]),
    (rounds_to_settle, [(BOARD, BOARD_ERRORS), ([(1, 0)], PLAN_ERRORS)]),
    (load_positions, [(2, [(2.0, InvalidCount)]), ([(1, 0)], PLAN_ERRORS)]),
    (load_positions, [(1, [(True, InvalidCount)]), ([(0,)], [([(False,)], InvalidPlan)])]),
    (first_visits, [(2, [(2.0, InvalidCount)]), ([(1, 0)], PLAN_ERRORS)]),
    (first_visits, [(1, [(True, InvalidCount)]), ([(0,)], [([(False,)], InvalidPlan)])]),
    (first_visits_forever, [(2, [(2.0, InvalidCount)]), ([(1, 0)], PLAN_ERRORS)]),
    (first_visits_forever, [(1, [(True, InvalidCount)]), ([(0,)], [([(False,)], InvalidPlan)])]),
    (missed_visits, [(SIZES, SIZES_ERRORS), ([(1, 0)], PLAN_ERRORS)]),
    (judge_fairness, [(SIZES, SIZES_ERRORS), ([(1, 0)], PLAN_ERRORS)]),
    (check_fairness, [(SIZES, SIZES_ERRORS), ([(1, 0)], PLAN_ERRORS), (("fair",), [])]),
    (repeats_until_fair, [(SIZES, SIZES_ERRORS), ([(1, 0)], PLAN_ERRORS)]),
    (worst_misplacement, [(SIZES, SIZES_ERRORS), ([(1, 0)], PLAN_ERRORS)]),
    (check_misplacement, [(SIZES, SIZES_ERRORS), ([(1, 0)], PLAN_ERRORS), ((0, ((1, 1), ((0, 2), (1,)))), [])]),
    (settling_time, [(SIZES, SIZES_ERRORS), ([(1, 0)], PLAN_ERRORS)]),
    (repair_plan, [(SIZES, SIZES_ERRORS), ([(1, 0)], PLAN_ERRORS)]),
    (check_repair, [(SIZES, SIZES_ERRORS), ([(1, 0)], PLAN_ERRORS), (([], None), [])]),
    (fewest_rounds, [(SIZES, SIZES_ERRORS)]),
    (plan_with_visits, [(2, [(2.0, InvalidCount)]), ([(0, 1)], PAIRS_ERRORS)]),
    (plan_with_visits, [(1, [(True, InvalidCount)]), ([], [])]),
    (check_visit_plan, [(2, [(2.0, InvalidCount)]), ([(0, 1)], PAIRS_ERRORS), (("none", 0, 1, [1]), [])]),
    (check_visit_plan, [(1, [(True, InvalidCount)]), ([], []), (("plan", []), [])]),
    (send_home, [(BOARD, BOARD_ERRORS), ([(1, 0)], PLAN_ERRORS)]),
    (find_source, [(BOARD, BOARD_ERRORS), ([(1, 0)], PLAN_ERRORS)]),
    (check_source, [(BOARD, BOARD_ERRORS), ([(1, 0)], PLAN_ERRORS), (("source", BOARD), [])]),
    (return_time, [(BOARD, BOARD_ERRORS), ([(1, 0)], PLAN_ERRORS)]),
    (plan_signature, [(SIZES, SIZES_ERRORS), ([(1, 0)], PLAN_ERRORS)]),
    (compare_plans, [(SIZES, SIZES_ERRORS), ([(1, 0)], PLAN_ERRORS), ([(1, 0)], PLAN_ERRORS)]),
    (check_comparison, [(SIZES, SIZES_ERRORS), ([(1, 0)], PLAN_ERRORS), ([(1, 0)], PLAN_ERRORS), (("same",), [])]),
    (count_sources, [(BOARD, BOARD_ERRORS), ([(1, 0)], PLAN_ERRORS)]),
    (source_at, [(REACHED, []), ([(1, 0)], PLAN_ERRORS), (1, INDEX_ERRORS)]),
    (source_at, [(REACHED, []), ([(1, 0)], []), (0, [(False, IndexTooLarge), (0.0, IndexTooLarge)])]),
    (source_index, [(BOARD, BOARD_ERRORS), ([(1, 0)], PLAN_ERRORS), (BOARD, BOARD_ERRORS)]),
    (count_deals, [(SIZES, SIZES_ERRORS)]),
    (count_unsettled, [(SIZES, SIZES_ERRORS), ([(1, 0)], PLAN_ERRORS)]),
    (count_reachable, [(SIZES, SIZES_ERRORS), ([(1, 0)], PLAN_ERRORS)]),
    (card_probability, [
        (SIZES, SIZES_ERRORS), ([(1, 0)], PLAN_ERRORS), (1, CARD_ERRORS),
        (1, [(True, InvalidPlace), (1.0, InvalidPlace)]), (0, [(False, InvalidPlace), (0.0, InvalidPlace)]),
    ]),
    (card_probability, [
        (SIZES, []), ([(1, 0)], []), (0, [(False, InvalidCard)]), (0, [(False, InvalidPlace)]), (1, [(True, InvalidPlace)]),
    ]),
    (count_last_rounds, [(BOARD, BOARD_ERRORS)]),
    (last_round_at, [(REACHED, []), (1, INDEX_ERRORS)]),
    (last_round_at, [(BOARD, BOARD_ERRORS), (0, [(False, IndexTooLarge), (0.0, IndexTooLarge)])]),
    (last_round_index, [(BOARD, BOARD_ERRORS), ((1, 0), [((True, 0), InvalidRound), ((1, 0.0), InvalidRound)])]),
]
# Each checker with a claim that it accepts, and with equal claims of other types that it does not.
EQUAL_CLAIMS = [
    (check_fairness, ((0, 1), (1, 0)), [], ("unfair", 1, 0, ((0, 1), ((1,), (2,)))), [
        ("unfair", True, 0, ((0, 1), ((1,), (2,)))),
        ("unfair", 1, False, ((0, 1), ((1,), (2,)))),
        ("unfair", 1, 0.0, ((0, 1), ((1,), (2,)))),
        ("unfair", 1, 0, ((False, 1), ((1,), (2,)))),
        ("unfair", 1, 0, ((0, True), ((1,), (2,)))),
        ("unfair", 1, 0, ((0, 1), ((True,), (2,)))),
        ("unfair", 1, 0, ((0, 1), ((1.0,), (2,)))),
    ]),
    (check_misplacement, ((0, 1), (1, 0)), [], (1, ((0, 1), ((1,), (2,)))), [
        (True, ((0, 1), ((1,), (2,)))),
        (1.0, ((0, 1), ((1,), (2,)))),
        (1, ((0, True), ((1,), (2,)))),
        (1, ((0, 1), ((True,), (2,)))),
    ]),
    (check_misplacement, ((0,), (1,)), [], (0, ((0,), ((1,),))), [
        (False, ((0,), ((1,),))),
        (0, ((False,), ((1,),))),
        (0, ((0,), ((True,),))),
    ]),
    (check_repair, ((0, 1), (1, 0)), [], ([(1, 0)], ("from", 1)), [
        ([(True, 0)], ("from", 1)),
        ([(1, False)], ("from", 1)),
        ([(1, 0.0)], ("from", 1)),
        ([(1, 0)], ("from", True)),
        ([(1, 0)], ("from", 1.0)),
    ]),
    (check_repair, ((0, 1), (1, 0)), [], ([(1, 0)], ("to", 0)), [([(1, 0)], ("to", False)), ([(1, 0)], ("to", 0.0))]),
    (check_visit_plan, 2, [(0, 1), (1, 0)], ("plan", [(1, 0)]), [("plan", [(True, 0)]), ("plan", [(1, 0.0)])]),
    (check_visit_plan, 2, [(0, 1)], ("none", 0, 1, [1]), [
        ("none", False, 1, [1]),
        ("none", 0, True, [1]),
        ("none", 0, 1, [True]),
        ("none", 0, 1, [1.0]),
    ]),
    (check_source, ((1, 1), ((1, 2), (3, 4))), [(0, 1)], ("source", ((1, 1), ((1, 2), (3, 4)))), [
        ("source", ((1, True), ((1, 2), (3, 4)))),
        ("source", ((1, 1), ((True, 2), (3, 4)))),
        ("source", ((1, 1), ((1, 2), (3.0, 4)))),
    ]),
    (check_source, ((1, 1), ((0, 5), (6, 7))), [(1, 0), (1, 0)], ("none", 1, 0, 1, 6, 5), [
        ("none", True, 0, 1, 6, 5),
        ("none", 1, False, 1, 6, 5),
        ("none", 1, 0, True, 6, 5),
        ("none", 1, 0, 1, 6.0, 5),
        ("none", 1, 0, 1, 6, 5.0),
    ]),
    (check_source, ((0, 1), ((0,), (1,))), [(1, 0), (1, 0)], ("none", 1, 0, 1, 1, 0), [
        ("none", 1, 0, 1, True, 0),
        ("none", 1, 0, 1, 1, False),
    ]),
    (check_comparison, ((0, 1), (1, 0)), [], [(1, 0)], ("different", ((0, 1), ((1,), (2,)))), [
        ("different", ((0, True), ((1,), (2,)))),
        ("different", ((False, 1), ((1,), (2,)))),
        ("different", ((0, 1), ((True,), (2,)))),
        ("different", ((0, 1), ((1,), (2.0,)))),
    ]),
]


class Interface(unittest.TestCase):
    def test_functions(self):
        for module, functions in FUNCTIONS.items():
            for name, names in functions.items():
                with self.subTest(module=module, function=name):
                    function = getattr(importlib.import_module(module), name)
                    self.assertTrue(inspect.isfunction(function))
                    self.assertEqual(function.__module__, module)
                    parameters = inspect.signature(function).parameters.values()
                    self.assertEqual([parameter.name for parameter in parameters], names)
                    for parameter in parameters:
                        self.assertIs(parameter.kind, inspect.Parameter.POSITIONAL_OR_KEYWORD)
                        self.assertIs(parameter.default, inspect.Parameter.empty)

    def test_game(self):
        self.assertTrue(inspect.isclass(Game))
        self.assertEqual(Game.__module__, "leastpass.games")
        board, plan = inspect.signature(Game).parameters.values()
        self.assertEqual((board.name, plan.name), ("board", "plan"))
        self.assertIs(board.kind, inspect.Parameter.POSITIONAL_OR_KEYWORD)
        self.assertIs(board.default, inspect.Parameter.empty)
        self.assertIs(plan.kind, inspect.Parameter.KEYWORD_ONLY)
        self.assertEqual(plan.default, ())
        for name, names in METHODS.items():
            with self.subTest(method=name):
                # Each stands in the class itself, not only in a base class.
                self.assertTrue(inspect.isfunction(vars(Game)[name]))
                parameters = list(inspect.signature(vars(Game)[name]).parameters.values())[1:]
                self.assertEqual([parameter.name for parameter in parameters], names)
                for parameter in parameters:
                    self.assertIs(parameter.kind, inspect.Parameter.POSITIONAL_OR_KEYWORD)
                    self.assertIs(parameter.default, inspect.Parameter.empty)

    def test_the_errors(self):
        for name in [
            "LeastPassError", "InvalidBoard", "InvalidSizes", "InvalidPlan", "InvalidRound", "InvalidCard", "InvalidPlace",
            "InvalidCount", "InvalidRepeats", "InvalidProfile", "InvalidPairs", "InvalidDeal", "IndexTooLarge",
            "ProblemTooLarge", "NothingToUndo",
        ]:
            self.assertEqual(getattr(importlib.import_module("leastpass.errors"), name).__module__, "leastpass.errors")


class Types(unittest.TestCase):
    """[2]: a result depends on the types of the arguments, also after an equal argument."""

    def test_equal_values_of_other_types(self):
        for _ in range(2):
            self.assertIsNone(check_board(((1, 0), ((0, 1), (2,)))))
            self.assertEqual(check_board(((True, 0), ((0, 1), (2,)))), ("lot", 0))
            self.assertEqual(check_board(((1, False), ((0, 1), (2,)))), ("lot", 1))
            self.assertEqual(check_board(((1.0, 0), ((0, 1), (2,)))), ("lot", 0))
            self.assertEqual(check_board(((1, 0), ((0, True), (2,)))), ("hand", 0))
            self.assertEqual(check_board(((1, 0), ((0, 1), (2.0,)))), ("hand", 1))
            self.assertIsNone(check_sizes(((1, 0), (0, 1))))
            self.assertEqual(check_sizes(((1, 0.0), (0, 1))), ("lot", 1))
            self.assertEqual(check_sizes(((1, 0), (0, True))), ("base", 1))
            self.assertIsNone(check_plan(1, [(0,)]))
            self.assertEqual(check_plan(1, [(False,)]), ("round", 0))
            self.assertEqual(check_plan(1, [(0.0,)]), ("round", 0))
            raised(self, InvalidCount, check_plan, True, [(0,)])
            raised(self, InvalidCount, check_plan, 1.0, [(0,)])

    def test_equal_arguments_of_other_types(self):
        board = ((1, 1), ((5, 7), (1, 3)))
        for _ in range(2):
            self.assertEqual(play_round(board, (1, 0)), ((1, 1), ((1, 7), (3, 5))))
            raised(self, InvalidRound, play_round, board, (True, False))
            raised(self, InvalidBoard, play_round, ((1, True), ((5, 7), (1, 3))), (1, 0))
            self.assertEqual(play(board, [(1, 0)]), ((1, 1), ((1, 7), (3, 5))))
            raised(self, InvalidPlan, play, board, [(1, False)])
            raised(self, InvalidBoard, play, ((1, 1), ((5, 7), (True, 3))), [(1, 0)])
            self.assertEqual(deal_board(((1, 1), (0, 0)), [1, 0]), ((1, 1), ((1,), (0,))))
            raised(self, InvalidDeal, deal_board, ((1, 1), (0, 0)), [True, 0])
            raised(self, InvalidSizes, deal_board, ((1, True), (0, 0)), [1, 0])
            self.assertEqual(sizes_of(board), ((1, 1), (1, 1)))
            raised(self, InvalidBoard, sizes_of, ((True, 1), ((5, 7), (1, 3))))
            self.assertEqual(card_owners(board), [1, 1, 0, 0])
            raised(self, InvalidBoard, card_owners, ((1, 1), ((5, 7), (True, 3))))

    def test_each_parameter(self):
        for function, parameters in EQUAL_ARGUMENTS:
            right = [argument for argument, _ in parameters]
            accepted = function(*right)
            for at, (_, cases) in enumerate(parameters):
                for argument, error in cases:
                    with self.subTest(function=function.__name__, argument=argument):
                        self.assertEqual(argument, right[at])
                        for _ in range(2):
                            raised(self, error, function, *right[:at], argument, *right[at + 1:])
                            self.assertEqual(repr(function(*right)), repr(accepted))

    def test_each_claim(self):
        for function, *arguments, accepted, cases in EQUAL_CLAIMS:
            for claim in cases:
                with self.subTest(function=function.__name__, claim=claim):
                    self.assertEqual(claim, accepted)
                    for _ in range(2):
                        self.assertIsNone(function(*arguments, accepted))
                        self.assertEqual(function(*arguments, claim), ("form",))
