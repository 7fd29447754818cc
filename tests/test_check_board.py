import copy
import unittest

from leastpass.boards import check_board
from tests.support import ANY_VALUES, NOT_NATURAL, NOT_TUPLES, Watched

RANKS = ["lot", "hand", "short", "duplicate"]


class CheckBoard(unittest.TestCase):
    """[20] and the definition of a board in [5]."""

    def check(self, value, reason):
        with self.subTest(value=value):
            self.assertEqual(repr(check_board(value)), repr(reason))

    def test_example(self):
        self.check(((1, 2), ((4, 4), (3,))), ("hand", 0))

    def test_boards(self):
        for board in [
            ((0,), ((),)),
            ((0,), ((0,),)),
            ((1,), ((0,),)),
            ((3,), ((0, 5, 999999999),)),
            ((1, 1), ((5, 7), (1, 3))),
            ((0, 2, 0), ((), (1, 2), (0,))),
            ((2, 0), ((8, 9), (1, 2, 3, 4))),
            ((10, 10), (tuple(range(10)), tuple(range(10, 20)))),
            ((25,) * 14, tuple(tuple(range(30 * p, 30 * p + 30)) for p in range(14))),
            ((1,), ((10 ** 30, 10 ** 31),)),
        ]:
            self.check(board, None)

    def test_shape_of_the_whole(self):
        for value in ANY_VALUES:
            self.check(value, ("shape",))
        for value in [
            [(0,), ((),)],
            {0: (0,), 1: ((),)},
            ((0,),),
            ((0,), ((),), ((),)),
            ((0,), ((),), None),
        ]:
            self.check(value, ("shape",))

    def test_shape_of_the_items(self):
        for value in NOT_TUPLES:
            self.check((value, ((),)), ("shape",))
            self.check((value, ((), ())), ("shape",))
            self.check(((0,), value), ("shape",))
            self.check(((0, 0), value), ("shape",))
            self.check((value, value), ("shape",))
        self.check(([0], ((),)), ("shape",))
        self.check(((0,), [()]), ("shape",))

    def test_shape_of_the_lengths(self):
        for value in [
            ((), ()),
            ((0,), ()),
            ((), ((),)),
            ((0, 0), ((),)),
            ((0,), ((), ())),
            ((0, 0, 0), ((), ())),
        ]:
            self.check(value, ("shape",))

    def test_lot(self):
        for value in NOT_NATURAL:
            self.check(((value,), ((),)), ("lot", 0))
            self.check(((value, 0, 0), ((1,), (2,), (3,))), ("lot", 0))
            self.check(((0, value, 0), ((1,), (2,), (3,))), ("lot", 1))
            self.check(((0, 0, value), ((1,), (2,), (3,))), ("lot", 2))
            self.check(((0, value, value), ((1,), (2,), (3,))), ("lot", 1))
        self.check(((True, 0), ((1, 2), (3,))), ("lot", 0))
        self.check(((1, False), ((1, 2), (3,))), ("lot", 1))

    def test_hand_that_is_no_tuple(self):
        for value in NOT_TUPLES:
            self.check(((0,), (value,)), ("hand", 0))
            self.check(((0, 0), ((), value)), ("hand", 1))
            self.check(((0, 0), (value, value)), ("hand", 0))
        self.check(((0, 0), ([1, 2], (3,))), ("hand", 0))

    def test_hand_with_other_items(self):
        for value in NOT_NATURAL:
            for hand in [(value,), (0, value), (value, 5), (0, value, 5), (value, 0), (5, value)]:
                self.check(((0, 0), (hand, (9,))), ("hand", 0))
                self.check(((0, 0), ((9,), hand)), ("hand", 1))
        for hand in [
            (False, 1), (0, True), (0, True, 2), (True,), (1, "a"), ("a", 1), ("a", "b"),
            (None, 1), ([], []), ((), 1), ({}, {}), (1.0, 2.0), (1, 2.0, 3),
        ]:
            self.check(((1,), (hand,)), ("hand", 0))

    def test_hand_that_does_not_ascend(self):
        for hand in [(1, 1), (2, 1), (1, 3, 2), (2, 1, 3), (1, 2, 2), (0, 0), (1, 2, 3, 3), (-1, 0), (-2, -1)]:
            self.check(((1,), (hand,)), ("hand", 0))
            self.check(((0, 0), ((), hand)), ("hand", 1))

    def test_short(self):
        self.check(((1,), ((),)), ("short", 0))
        self.check(((3,), ((1, 2),)), ("short", 0))
        self.check(((2, 0), ((5,), (1, 2, 3))), ("short", 0))
        self.check(((0, 2), ((1, 2, 3), (5,))), ("short", 1))
        self.check(((0, 2, 1), ((1, 2, 3), (5,), ())), ("short", 1))
        self.check(((10 ** 30, 0), ((5,), (1, 2, 3))), ("short", 0))

    def test_duplicate(self):
        self.check(((0, 0), ((1,), (1,))), ("duplicate", 1))
        self.check(((1, 1), ((0, 4), (0, 5))), ("duplicate", 1))
        self.check(((0, 0), ((1, 2), (2, 3))), ("duplicate", 1))
        self.check(((0, 0), ((2, 3), (1, 2))), ("duplicate", 1))
        self.check(((0, 0, 0), ((1,), (2,), (1,))), ("duplicate", 2))
        self.check(((0, 0, 0), ((1,), (2,), (2,))), ("duplicate", 2))
        self.check(((0, 0, 0), ((1,), (1,), (1,))), ("duplicate", 1))
        self.check(((0, 0, 0), ((3,), (), (1, 2, 3))), ("duplicate", 2))
        self.check(((0, 0, 0), ((9,), (4, 9), (4,))), ("duplicate", 1))

    def test_shape_comes_first(self):
        self.check(((-1,), ((), ())), ("shape",))
        self.check(([-1], ([],)), ("shape",))
        self.check(((9, 9), ((1, 1),)), ("shape",))
        self.check(((0, 0, 0), ((1,), (1,))), ("shape",))

    def faulty(self, faults):
        lots = [1, 1, 1, 1]
        hands = [(0, 10), (1, 11), (2, 12), (3, 13)]
        for kind, place in faults:
            if kind == "lot":
                lots[place] = True
            elif kind == "hand":
                hands[place] = list(hands[place])
            elif kind == "short":
                lots[place] = 5
            else:
                hands[place] = tuple(sorted((hands[place][0], 10)))
        return tuple(lots), tuple(hands)

    def test_two_faults_at_once(self):
        faults = [(kind, place) for kind in RANKS for place in range(1, 4)]
        for first in faults:
            for second in faults:
                # The two faults of one lot cannot stand together, and a list is no duplicate.
                if first[1] == second[1] and {first[0], second[0]} in [{"lot", "short"}, {"hand", "duplicate"}]:
                    continue
                expected = min(first, second, key=lambda fault: (RANKS.index(fault[0]), fault[1]))
                self.check(self.faulty([first, second]), expected)

    def test_order_of_the_reasons_against_the_order_of_the_places(self):
        self.check(((0, -1), ([], ())), ("lot", 1))
        self.check(((1, -1), ((), ())), ("lot", 1))
        self.check(((0, 0, True), ((1,), (1,), ())), ("lot", 2))
        self.check(((1, 0), ((), (2, 1))), ("hand", 1))
        self.check(((0, 0, 0), ((1,), (1,), None)), ("hand", 2))
        self.check(((0, 0, 1), ((1,), (1,), ())), ("short", 2))
        self.check(((0, -1), ([], [])), ("lot", 1))
        self.check(((-1, 0), ([], ())), ("lot", 0))
        self.check(((3, 0), ((4, 4), ())), ("hand", 0))
        self.check(((0, 3), ((4,), (4,))), ("short", 1))

    def test_conventions(self):
        for value in [*ANY_VALUES, ((1, 1), ((5, 7), (1, 3))), ((0, 0), ([3], {})), [[1], [[2]]]]:
            if value == value:
                Watched(self).call(check_board, value)

    def test_value_by_name(self):
        self.assertEqual(check_board(value=((1,), ((),))), ("short", 0))

    def test_reason_is_independent_of_a_later_change(self):
        value = ((0,), ([3],))
        reason = check_board(value)
        kept = copy.deepcopy(reason)
        value[1][0].append(4)
        self.assertEqual(reason, kept)
