import unittest

from leastpass.errors import InvalidBoard, InvalidPlan
from leastpass.settling import is_settled, low_cards, rounds_to_settle
from tests.support import (
    ANY_VALUES, BAD_BOARDS, NOT_LISTS, Watched, large_boards_and_plans, raised, raises_first, repetitions_until_known,
    slow_boards, some_boards_and_plans,
)

BOARD = ((1, 1), ((5, 7), (1, 3)))
SETTLED = ((1, 1), ((1, 7), (3, 5)))
SHIFT = (1, 2, 0)


def slow_low_cards(board):
    """A card is low if fewer cards are lower than there are cards in all loads."""
    cards = [card for hand in board[1] for card in hand]
    return [card for card in sorted(cards) if sum(other < card for other in cards) < sum(board[0])]


def slow_is_settled(board):
    lots, hands = board
    heaps = [card for place, hand in enumerate(hands) for card in hand[lots[place]:]]
    return not any(card in heaps for card in slow_low_cards(board))


def slow_rounds_to_settle(board, plan):
    _, after = repetitions_until_known(board, plan)
    for time, reached in enumerate(slow_boards(board, plan * after)):
        if slow_is_settled(reached):
            return time
    return None


class LowCards(unittest.TestCase):
    """[36] and the definition in [8]."""

    def check(self, board, result):
        with self.subTest(board=board):
            self.assertEqual(repr(Watched(self).call(low_cards, board)), repr(result))

    def test_example(self):
        self.check(BOARD, [1, 3])

    def test_as_many_as_all_lots_together(self):
        self.check(((1, 2, 0), ((4, 9), (0, 6, 8), (2, 5))), [0, 2, 4])
        self.check(((0, 3), ((9, 11), (2, 10, 100))), [2, 9, 10])
        self.check(((0, 1), ((9, 11), (2, 10, 100))), [2])

    def test_edges(self):
        self.check(((0,), ((),)), [])
        self.check(((0,), ((3, 4),)), [])
        self.check(((0, 0), ((3,), (1,))), [])
        self.check(((2,), ((3, 4),)), [3, 4])
        self.check(((1, 1), ((8,), (5,))), [5, 8])

    def test_small_and_large_boards(self):
        for board, plan in [*some_boards_and_plans(), *large_boards_and_plans()]:
            if len(plan) < 2:
                self.assertEqual(low_cards(board), slow_low_cards(board))


class IsSettled(unittest.TestCase):
    """[37] and the definition in [8]."""

    def check(self, board, result):
        with self.subTest(board=board):
            self.assertIs(Watched(self).call(is_settled, board), result)

    def test_example(self):
        self.check(BOARD, False)

    def test_loads_below_heaps(self):
        self.check(SETTLED, True)
        self.check(((1, 1), ((2, 4), (1, 3))), True)
        self.check(((1, 1), ((3, 4), (1, 2))), False)
        self.check(((1, 2, 0), ((2, 9), (0, 1, 8), (4, 5))), True)
        self.check(((1, 2, 0), ((2, 9), (0, 1, 8), (3, 5))), True)
        self.check(((1, 2, 0), ((3, 9), (0, 1, 8), (2, 5))), False)

    def test_edges(self):
        self.check(((0,), ((),)), True)
        self.check(((0,), ((3, 4),)), True)
        self.check(((1,), ((3, 4),)), True)
        self.check(((2,), ((3, 4),)), True)
        self.check(((0, 0), ((3,), (1,))), True)
        self.check(((1, 1), ((8,), (5,))), True)
        self.check(((1, 0), ((8,), (5,))), False)
        self.check(((1, 0), ((5,), (8,))), True)

    def test_small_and_large_boards(self):
        for board, plan in [*some_boards_and_plans(), *large_boards_and_plans()]:
            played = slow_boards(board, plan)[-1]
            self.assertIs(is_settled(played), slow_is_settled(played))


class RoundsToSettle(unittest.TestCase):
    """[38]"""

    def check(self, board, plan, result):
        with self.subTest(board=board, plan=plan):
            found = Watched(self).call(rounds_to_settle, board, plan)
            self.assertEqual(repr(found), repr(result))

    def test_example(self):
        self.check(BOARD, [(1, 0)], 1)

    def test_empty_plan(self):
        self.check(BOARD, [], None)
        self.check(SETTLED, [], 0)
        self.check(((0,), ((),)), [], 0)

    def test_settled_at_the_beginning(self):
        self.check(SETTLED, [(1, 0)], 0)
        self.check(((0, 0), ((3,), (1,))), [(1, 0)], 0)
        self.check(((1, 1), ((8,), (5,))), [(1, 0)], 0)
        self.check(((1,), ((3, 4),)), [(0,)], 0)

    def test_never_settled(self):
        self.check(BOARD, [(0, 1)], None)
        self.check(((1, 1, 1), ((7, 8), (3, 5), (1, 2))), [(0, 2, 1)], None)

    def test_rounds_are_counted_through_all_repetitions(self):
        self.check(BOARD, [(0, 1), (0, 1), (1, 0)], 3)
        self.check(((1, 1, 1), ((8, 9), (4, 6), (1, 2))), [SHIFT], 2)
        self.check(((1, 1, 1), ((8, 9), (4, 6), (1, 2))), [(0, 1, 2), SHIFT], 4)
        self.check(((1, 1, 1), ((8, 9), (4, 6), (1, 2))), [SHIFT, SHIFT], 2)

    def test_settled_within_a_repetition(self):
        self.check(BOARD, [(1, 0), (0, 1), (1, 0)], 1)
        self.check(BOARD, [(1, 0), (1, 0)], 1)

    def test_settled_by_the_last_of_many_rounds(self):
        # Only the load of place 0 can take card 12, which lies in the heap of the last place that it visits.
        lots = (1,) * 12
        hands = ((500, 600),) + tuple((place, 100 + place) for place in range(1, 11)) + ((11, 12),)
        shift = tuple(range(1, 12)) + (0,)
        self.check((lots, hands), [shift], 11)
        self.check((lots, hands), [tuple(range(12))] * 39 + [shift], 440)

    def test_plain_replay(self):
        for board, plan in some_boards_and_plans():
            self.assertEqual(rounds_to_settle(board, plan), slow_rounds_to_settle(board, plan))

    def test_up_to_the_limits_and_somewhat_beyond(self):
        for board, plan in large_boards_and_plans():
            self.assertEqual(rounds_to_settle(board, plan), slow_rounds_to_settle(board, plan))


class Errors(unittest.TestCase):
    """The errors of [36], [37] and [38]."""

    def test_wrong_board(self):
        for value, reason in BAD_BOARDS + [(value, ("shape",)) for value in ANY_VALUES]:
            with self.subTest(value=value):
                self.assertEqual(vars(raised(self, InvalidBoard, low_cards, value)), {"reason": reason})
                self.assertEqual(vars(raised(self, InvalidBoard, is_settled, value)), {"reason": reason})
                self.assertEqual(vars(raised(self, InvalidBoard, rounds_to_settle, value, [])), {"reason": reason})

    def test_wrong_plan(self):
        cases = [(value, ("plan",)) for value in NOT_LISTS] + [
            (((1, 0),), ("plan",)),
            ([(0,)], ("round", 0)),
            ([(1, 0), (0, 0)], ("round", 1)),
            ([(1, 0), (1, False)], ("round", 1)),
            ([[1, 0]], ("round", 0)),
        ]
        for plan, reason in cases:
            for board in [BOARD, SETTLED]:
                with self.subTest(board=board, plan=plan):
                    error = raised(self, InvalidPlan, rounds_to_settle, board, plan)
                    self.assertEqual(vars(error), {"reason": reason})

    def test_order_of_the_errors(self):
        raises_first(self, rounds_to_settle, [
            (BOARD, [(value, (InvalidBoard, {"reason": reason})) for value, reason in BAD_BOARDS]),
            ([(1, 0)], [((), (InvalidPlan, {"reason": ("plan",)})), ([(0,)], (InvalidPlan, {"reason": ("round", 0)}))]),
        ])

    def test_arguments_by_name(self):
        self.assertEqual(low_cards(board=BOARD), [1, 3])
        self.assertIs(is_settled(board=BOARD), False)
        self.assertEqual(rounds_to_settle(plan=[(1, 0)], board=BOARD), 1)
