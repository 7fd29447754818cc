import unittest

from leastpass.boards import check_board
from leastpass.errors import InvalidBoard, InvalidCard, InvalidPlan, InvalidRepeats
from leastpass.tracking import final_locations, locate_card, play_repeated, track_card
from tests.support import (
    ANY_VALUES, BAD_BOARDS, NOT_LISTS, NOT_NATURAL, NOT_WHOLE, Watched, large_boards_and_plans, raised, raises_first,
    repetitions_until_known, slow_boards, slow_owners, some_boards_and_plans,
)

BOARD = ((1, 1), ((5, 7), (1, 3)))
THREE = ((1, 2, 0), ((4, 9), (0, 6, 8), (2, 5)))
SHIFT = (1, 2, 0)
NAMES = [
    (track_card, ["board", "plan", "card"]),
    (play_repeated, ["board", "plan", "repeats"]),
    (locate_card, ["board", "plan", "card", "repeats"]),
    (final_locations, ["board", "plan"]),
]
# Each wrong argument with its error, for the order of the errors.
BOARD_CHOICE = (BOARD, [(value, (InvalidBoard, {"reason": reason})) for value, reason in BAD_BOARDS])
PLAN_CHOICE = ([(1, 0)], [
    (((1, 0),), (InvalidPlan, {"reason": ("plan",)})),
    ([(0,)], (InvalidPlan, {"reason": ("round", 0)})),
    ([(1, 0), (True, 0)], (InvalidPlan, {"reason": ("round", 1)})),
])
CARD_CHOICE = (1, [(value, (InvalidCard, {"card": value})) for value in [2, True, None, "1", 1.0, -1]])
REPEATS_CHOICE = (3, [(value, (InvalidRepeats, {})) for value in [-1, True, None, 3.0]])


def slow_location(board, card):
    lots, hands = board
    place = [card in hand for hand in hands].index(True)
    return ("heap" if hands[place].index(card) >= lots[place] else "load", place)


def slow_final(board, plan):
    """Replay until boards and loads repeat; from then on the owners of the cards repeat too."""
    cards = sorted(card for hand in board[1] for card in hand)
    first, after = repetitions_until_known(board, plan)
    owners = slow_owners(board, plan * after)
    found = []
    for card in cards:
        always = {owner[card] for owner in owners[first * len(plan):]}
        (kind, place), = always
        wrong = [time for time, owner in enumerate(owners) if owner[card] != (kind, place)]
        found.append((card, kind, place, max(wrong, default=-1) + 1))
    return found


class TrackCard(unittest.TestCase):
    """[32]"""

    def check(self, board, plan, card, result):
        with self.subTest(board=board, plan=plan, card=card):
            found = Watched(self).call(track_card, board, plan, card)
            self.assertEqual(repr(found), repr(result))

    def test_example(self):
        self.check(BOARD, [(1, 0), (1, 0)], 5, [("load", 0), ("heap", 1), ("heap", 1)])

    def test_empty_plan(self):
        self.check(BOARD, [], 7, [("heap", 0)])
        self.check(BOARD, [], 1, [("load", 1)])

    def test_one_place(self):
        self.check(((0,), ((3,),)), [(0,)], 3, [("heap", 0), ("heap", 0)])
        self.check(((1,), ((3, 4),)), [(0,), (0,)], 3, [("load", 0)] * 3)
        self.check(((1,), ((3, 4),)), [(0,), (0,)], 4, [("heap", 0)] * 3)

    def test_a_load_is_at_its_current_place(self):
        self.check(BOARD, [(1, 0), (1, 0)], 1, [("load", 1), ("load", 0), ("load", 1)])
        self.check(BOARD, [(0, 1), (1, 0)], 1, [("load", 1), ("load", 1), ("load", 0)])

    def test_a_card_may_leave_and_enter_loads(self):
        board = ((1, 1, 1), ((1, 9), (3, 5), (7, 8)))
        self.check(board, [SHIFT] * 2, 7, [("load", 2), ("load", 0), ("heap", 1)])
        self.check(board, [SHIFT] * 3, 5, [("heap", 1), ("heap", 1), ("load", 1), ("load", 2)])
        self.check(board, [(1, 0, 2)], 3, [("load", 1), ("load", 0)])

    def test_lots_of_zero_and_empty_heaps(self):
        self.check(((0, 0), ((4,), (1, 2))), [(1, 0)], 1, [("heap", 1), ("heap", 1)])
        self.check(((2, 0), ((1, 2), ())), [(1, 0)], 2, [("load", 0), ("load", 1)])
        self.check(((1, 0), ((8,), (5,))), [(1, 0)], 5, [("heap", 1), ("load", 1)])
        self.check(((1, 0), ((8,), (5,))), [(1, 0)], 8, [("load", 0), ("heap", 1)])

    def test_plain_replay(self):
        for board, plan in some_boards_and_plans():
            boards = slow_boards(board, plan)
            for card in [card for hand in board[1] for card in hand]:
                expected = [slow_location(reached, card) for reached in boards]
                self.assertEqual(track_card(board, plan, card), expected)

    def test_up_to_the_limits_and_somewhat_beyond(self):
        for board, plan in large_boards_and_plans():
            boards = slow_boards(board, plan)
            cards = [card for hand in board[1] for card in hand]
            for card in [min(cards), max(cards), *sorted(cards)[::37]]:
                expected = [slow_location(reached, card) for reached in boards]
                self.assertEqual(track_card(board, plan, card), expected)

    def test_result_does_not_follow_the_plan(self):
        plan = [(1, 0)]
        result = track_card(BOARD, plan, 5)
        plan.append((1, 0))
        self.assertEqual(result, [("load", 0), ("heap", 1)])


class PlayRepeated(unittest.TestCase):
    """[33]"""

    def check(self, board, plan, repeats, result):
        with self.subTest(board=board, plan=plan, repeats=repeats):
            found = Watched(self).call(play_repeated, board, plan, repeats)
            self.assertEqual(repr(found), repr(result))
            self.assertIsNone(check_board(found))

    def test_example(self):
        self.check(BOARD, [(1, 0)], 3, ((1, 1), ((1, 7), (3, 5))))

    def test_no_repetition(self):
        self.check(BOARD, [(1, 0)], 0, BOARD)
        self.check(BOARD, [], 0, BOARD)

    def test_empty_plan(self):
        for repeats in [1, 2, 3, 10 ** 60 - 1]:
            self.check(BOARD, [], repeats, BOARD)
            self.check(((0,), ((),)), [], repeats, ((0,), ((),)))

    def test_one_place(self):
        for repeats in [0, 1, 2, 10 ** 60 - 1]:
            self.check(((1,), ((3, 8),)), [(0,)], repeats, ((1,), ((3, 8),)))

    def test_places_that_pass_to_themselves(self):
        self.check(THREE, [(0, 1, 2)], 10 ** 59 + 1, THREE)

    def test_loads_travel_for_ever(self):
        boards = slow_boards(THREE, [SHIFT] * 12)
        for repeats in range(13):
            self.check(THREE, [SHIFT], repeats, boards[repeats])
        self.check(THREE, [SHIFT], 3 * 10 ** 59, boards[3])
        self.check(THREE, [SHIFT], 3 * 10 ** 59 + 1, boards[4])
        self.check(THREE, [SHIFT], 3 * 10 ** 59 + 2, boards[5])

    def test_lots_of_zero_and_empty_heaps(self):
        self.check(((0, 0), ((4,), (1, 2))), [(1, 0)], 10 ** 59 + 1, ((0, 0), ((4,), (1, 2))))
        self.check(((2, 0), ((1, 2), ())), [(1, 0)], 10 ** 59 + 1, ((0, 2), ((), (1, 2))))
        self.check(((2, 0), ((1, 2), ())), [(1, 0)], 10 ** 59, ((2, 0), ((1, 2), ())))

    def test_plain_replay_until_and_beyond_a_known_board(self):
        for board, plan in some_boards_and_plans():
            first, after = repetitions_until_known(board, plan)
            boards = slow_boards(board, plan * (3 * after))[::len(plan)] if plan else [board] * (3 * after)
            for repeats, expected in enumerate(boards):
                self.assertEqual(play_repeated(board, plan, repeats), expected)
            for repeats in [10 ** 59, 10 ** 59 + 1, 10 ** 60 - 1]:
                expected = boards[first + (repeats - first) % (after - first)]
                self.assertEqual(play_repeated(board, plan, repeats), expected)

    def test_up_to_the_limits_and_somewhat_beyond(self):
        for board, plan in large_boards_and_plans():
            first, after = repetitions_until_known(board, plan)
            boards = slow_boards(board, plan * after)[::len(plan)]
            for repeats in [*range(16), 59, 60, 61, 10 ** 6, 10 ** 59 + 7, 10 ** 60 - 1, 10 ** 70]:
                at = repeats if repeats < after else first + (repeats - first) % (after - first)
                self.assertEqual(play_repeated(board, plan, repeats), boards[at])

    def test_result_does_not_follow_the_plan(self):
        plan = [(1, 0)]
        result = play_repeated(BOARD, plan, 3)
        plan.append((1, 0))
        self.assertEqual(result, ((1, 1), ((1, 7), (3, 5))))


class LocateCard(unittest.TestCase):
    """[34]"""

    def check(self, board, plan, card, repeats, result):
        with self.subTest(board=board, plan=plan, card=card, repeats=repeats):
            found = Watched(self).call(locate_card, board, plan, card, repeats)
            self.assertEqual(repr(found), repr(result))

    def test_example(self):
        self.check(BOARD, [(1, 0)], 5, 3, ("heap", 1))

    def test_no_repetition_and_empty_plan(self):
        self.check(BOARD, [(1, 0)], 5, 0, ("load", 0))
        self.check(BOARD, [], 5, 10 ** 60 - 1, ("load", 0))
        self.check(((0,), ((0,),)), [(0,)], 0, 10 ** 60 - 1, ("heap", 0))

    def test_a_load_is_at_its_current_place(self):
        self.check(BOARD, [(1, 0)], 1, 10 ** 59, ("load", 1))
        self.check(BOARD, [(1, 0)], 1, 10 ** 59 + 1, ("load", 0))

    def test_plain_replay(self):
        for board, plan in some_boards_and_plans():
            first, after = repetitions_until_known(board, plan)
            boards = slow_boards(board, plan * (after + 1))[::len(plan)] if plan else [board] * (after + 2)
            for card in [card for hand in board[1] for card in hand]:
                for repeats in [0, 1, after, after + 1]:
                    self.assertEqual(locate_card(board, plan, card, repeats), slow_location(boards[repeats], card))
                many = 10 ** 60 - 1
                expected = slow_location(boards[first + (many - first) % (after - first)], card)
                self.assertEqual(locate_card(board, plan, card, many), expected)

    def test_up_to_the_limits_and_somewhat_beyond(self):
        for board, plan in large_boards_and_plans():
            for repeats in [1, 13, 10 ** 59 + 7, 10 ** 60 - 1]:
                played = play_repeated(board, plan, repeats)
                cards = [card for hand in board[1] for card in hand]
                for card in [min(cards), max(cards), *sorted(cards)[::71]]:
                    self.assertEqual(locate_card(board, plan, card, repeats), slow_location(played, card))


class FinalLocations(unittest.TestCase):
    """[35]"""

    def check(self, board, plan, result):
        with self.subTest(board=board, plan=plan):
            found = Watched(self).call(final_locations, board, plan)
            self.assertEqual(repr(found), repr(result))

    def test_example(self):
        self.check(BOARD, [(1, 0)], [(1, "load", 1, 0), (3, "load", 0, 1), (5, "heap", 1, 1), (7, "heap", 0, 0)])

    def test_empty_plan(self):
        self.check(BOARD, [], [(1, "load", 1, 0), (3, "heap", 1, 0), (5, "load", 0, 0), (7, "heap", 0, 0)])
        self.check(((0,), ((),)), [], [])

    def test_one_place(self):
        self.check(((1,), ((3, 8),)), [(0,)], [(3, "load", 0, 0), (8, "heap", 0, 0)])
        self.check(((0,), ((3,),)), [(0,)], [(3, "heap", 0, 0)])

    def test_no_cards(self):
        self.check(((0, 0), ((), ())), [(1, 0)], [])

    def test_ascending_order_of_cards(self):
        self.check(((0, 1), ((9, 100), (10, 11))), [], [
            (9, "heap", 0, 0), (10, "load", 1, 0), (11, "heap", 1, 0), (100, "heap", 0, 0),
        ])

    def test_a_load_is_named_by_the_place_where_it_starts(self):
        board = ((1, 1, 1), ((1,), (2,), (3,)))
        self.check(board, [SHIFT], [(1, "load", 0, 0), (2, "load", 1, 0), (3, "load", 2, 0)])

    def test_rounds_are_counted_through_all_repetitions(self):
        board = ((1, 1, 1), ((1, 9), (3, 5), (7, 8)))
        self.check(board, [(0, 1, 2), SHIFT], [
            (1, "load", 0, 0), (3, "load", 1, 0), (5, "load", 2, 4),
            (7, "heap", 1, 4), (8, "heap", 2, 0), (9, "heap", 0, 0),
        ])

    def test_a_card_may_change_its_owner_often(self):
        board = ((1, 1, 1), ((8, 9), (4, 6), (1, 2)))
        self.check(board, [SHIFT], [
            (1, "load", 2, 0), (2, "load", 1, 1), (4, "load", 0, 2),
            (6, "heap", 2, 2), (8, "heap", 1, 1), (9, "heap", 0, 0),
        ])

    def test_plain_replay(self):
        for board, plan in some_boards_and_plans():
            self.assertEqual(final_locations(board, plan), slow_final(board, plan))

    def test_up_to_the_limits_and_somewhat_beyond(self):
        for board, plan in large_boards_and_plans():
            self.assertEqual(final_locations(board, plan), slow_final(board, plan))

    def test_result_does_not_follow_the_plan(self):
        plan = []
        result = final_locations(((1,), ((3,),)), plan)
        plan.append((0,))
        self.assertEqual(result, [(3, "load", 0, 0)])


class Errors(unittest.TestCase):
    """The errors of [32] to [35]."""

    def check(self, error, fields, **wrong):
        """Call each function that takes the wrong argument, with right ones beside it."""
        right = {"board": BOARD, "plan": [(1, 0)], "card": 5, "repeats": 3}
        for function, names in NAMES:
            if set(wrong) <= set(names):
                arguments = [wrong.get(name, right[name]) for name in names]
                with self.subTest(function=function.__name__, **wrong):
                    self.assertEqual(vars(raised(self, error, function, *arguments)), fields)

    def test_wrong_board(self):
        for value, reason in BAD_BOARDS + [(value, ("shape",)) for value in ANY_VALUES]:
            self.check(InvalidBoard, {"reason": reason}, board=value)

    def test_wrong_plan(self):
        cases = [(value, ("plan",)) for value in NOT_LISTS] + [
            (((1, 0),), ("plan",)),
            ([(0,)], ("round", 0)),
            ([(0, 1, 2)], ("round", 0)),
            ([(1, 0), (0, 0)], ("round", 1)),
            ([(1, 0), (1, False)], ("round", 1)),
            ([[1, 0]], ("round", 0)),
            ([None], ("round", 0)),
        ]
        for plan, reason in cases:
            self.check(InvalidPlan, {"reason": reason}, plan=plan)

    def test_wrong_card(self):
        board = ((1, 1), ((0, 5), (1, 3)))
        cases = NOT_WHOLE + [2, 4, 6, -1, 10 ** 30, 5.0, 0.0, (5,), [5], "5"]
        for card in cases:
            for function, arguments in [(track_card, [card]), (locate_card, [card, 3])]:
                with self.subTest(function=function.__name__, card=card):
                    error = raised(self, InvalidCard, function, board, [(1, 0)], *arguments)
                    self.assertEqual(list(vars(error)), ["card"])
                    self.assertIs(error.card, card)

    def test_no_card_on_the_board(self):
        for card in [0, -1, False, None]:
            self.assertIs(raised(self, InvalidCard, track_card, ((0,), ((),)), [], card).card, card)
            self.assertIs(raised(self, InvalidCard, locate_card, ((0,), ((),)), [], card, 0).card, card)

    def test_wrong_repeats(self):
        for repeats in NOT_NATURAL + [3.0, "3", (3,)]:
            self.check(InvalidRepeats, {}, repeats=repeats)
            self.check(InvalidRepeats, {}, repeats=repeats, plan=[])

    def test_order_of_the_errors(self):
        raises_first(self, track_card, [BOARD_CHOICE, PLAN_CHOICE, CARD_CHOICE])
        raises_first(self, play_repeated, [BOARD_CHOICE, PLAN_CHOICE, REPEATS_CHOICE])
        raises_first(self, locate_card, [BOARD_CHOICE, PLAN_CHOICE, CARD_CHOICE, REPEATS_CHOICE])
        raises_first(self, final_locations, [BOARD_CHOICE, PLAN_CHOICE])

    def test_arguments_by_name(self):
        plan = [(1, 0)]
        self.assertEqual(track_card(card=5, plan=plan, board=BOARD), [("load", 0), ("heap", 1)])
        self.assertEqual(play_repeated(repeats=3, plan=plan, board=BOARD), ((1, 1), ((1, 7), (3, 5))))
        self.assertEqual(locate_card(repeats=3, card=5, plan=plan, board=BOARD), ("heap", 1))
        self.assertEqual(final_locations(plan=plan, board=BOARD)[2], (5, "heap", 1, 1))
