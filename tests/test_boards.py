import itertools
import unittest

from leastpass.boards import card_owners, check_board, check_sizes, deal_board, sizes_of
from leastpass.errors import InvalidBoard, InvalidDeal, InvalidSizes
from tests.support import (
    ANY_VALUES, BAD_BOARDS, NOT_LISTS, NOT_NATURAL, Watched, all_owner_lists, all_sizes, raised, slow_board,
)


def small_boards():
    for places in [1, 2]:
        for sizes in all_sizes(places, 2):
            for owners in all_owner_lists(sizes):
                yield sizes, owners, slow_board(sizes, owners)


class SizesOf(unittest.TestCase):
    """[23]"""

    def test_example(self):
        self.assertEqual(sizes_of(((1, 1), ((5, 7), (1, 3)))), ((1, 1), (1, 1)))

    def test_ordinary_and_edges(self):
        for board, sizes in [
            (((0,), ((),)), ((0,), (0,))),
            (((0,), ((3, 4),)), ((0,), (2,))),
            (((2,), ((3, 4),)), ((2,), (0,))),
            (((1, 0, 3), ((1, 2, 9), (), (3, 4, 5, 6, 7))), ((1, 0, 3), (2, 0, 2))),
        ]:
            with self.subTest(board=board):
                result = Watched(self).call(sizes_of, board)
                self.assertEqual(repr(result), repr(sizes))
                self.assertIsNone(check_sizes(result))

    def test_small_boards(self):
        for sizes, _, board in small_boards():
            self.assertEqual(sizes_of(board), sizes)

    def test_errors(self):
        for value, reason in BAD_BOARDS + [(value, ("shape",)) for value in ANY_VALUES]:
            with self.subTest(value=value):
                self.assertEqual(raised(self, InvalidBoard, sizes_of, value).reason, reason)

    def test_board_by_name(self):
        self.assertEqual(sizes_of(board=((1,), ((5, 7),))), ((1,), (1,)))


class CardOwners(unittest.TestCase):
    """[24]"""

    def test_example(self):
        self.assertEqual(card_owners(((1, 1), ((5, 7), (1, 3)))), [1, 1, 0, 0])

    def test_ordinary_and_edges(self):
        for board, owners in [
            (((0,), ((),)), []),
            (((0, 0), ((), ())), []),
            (((0,), ((8,),)), [0]),
            (((0, 0), ((), (4,))), [1]),
            (((1, 0, 1), ((3, 20), (), (0, 100, 999999999))), [2, 0, 0, 2, 2]),
            (((0, 1, 2), ((9, 10), (2, 11), (1, 8))), [2, 1, 2, 0, 0, 1]),
        ]:
            with self.subTest(board=board):
                self.assertEqual(repr(Watched(self).call(card_owners, board)), repr(owners))

    def test_small_boards(self):
        for _, owners, board in small_boards():
            self.assertEqual(card_owners(board), owners)

    def test_result_is_new(self):
        board = ((1, 1), ((5, 7), (1, 3)))
        first = card_owners(board)
        second = card_owners(board)
        self.assertIsNot(first, second)
        first.clear()
        self.assertEqual(second, [1, 1, 0, 0])
        self.assertEqual(card_owners(board), [1, 1, 0, 0])

    def test_errors(self):
        for value, reason in BAD_BOARDS + [(value, ("shape",)) for value in ANY_VALUES]:
            with self.subTest(value=value):
                self.assertEqual(raised(self, InvalidBoard, card_owners, value).reason, reason)

    def test_board_by_name(self):
        self.assertEqual(card_owners(board=((1,), ((5, 7),))), [0, 0])


class DealBoard(unittest.TestCase):
    """[25]"""

    def test_example(self):
        self.assertEqual(deal_board(((1, 1), (1, 1)), [1, 1, 0, 0]), ((1, 1), ((2, 3), (0, 1))))

    def test_ordinary_and_edges(self):
        for sizes, owners, board in [
            (((0,), (0,)), [], ((0,), ((),))),
            (((0, 0), (0, 0)), [], ((0, 0), ((), ()))),
            (((0,), (2,)), [0, 0], ((0,), ((0, 1),))),
            (((2,), (0,)), [0, 0], ((2,), ((0, 1),))),
            (((1, 0, 2), (0, 0, 1)), [2, 0, 2, 2], ((1, 0, 2), ((1,), (), (0, 2, 3)))),
        ]:
            with self.subTest(sizes=sizes, owners=owners):
                result = Watched(self).call(deal_board, sizes, owners)
                self.assertEqual(repr(result), repr(board))
                self.assertIsNone(check_board(result))

    def test_small_boards(self):
        for sizes, owners, board in small_boards():
            self.assertEqual(deal_board(sizes, owners), board)

    def test_exactly_the_fitting_lists_are_dealt(self):
        for sizes in [((0, 1), (1, 0)), ((1, 0), (1, 1)), ((0, 0), (0, 2)), ((0, 0), (0, 0))]:
            fitting = list(all_owner_lists(sizes))
            for length in range(5):
                for owners in itertools.product([-2, -1, 0, 1, 2], repeat=length):
                    with self.subTest(sizes=sizes, owners=owners):
                        if list(owners) in fitting:
                            self.assertEqual(deal_board(sizes, list(owners)), slow_board(sizes, owners))
                        else:
                            raised(self, InvalidDeal, deal_board, sizes, list(owners))

    def test_result_does_not_follow_the_owners(self):
        owners = [1, 1, 0, 0]
        board = deal_board(((1, 1), (1, 1)), owners)
        owners[0] = 0
        owners.append(9)
        self.assertEqual(board, ((1, 1), ((2, 3), (0, 1))))

    def test_wrong_sizes(self):
        cases = [(value, ("shape",)) for value in ANY_VALUES]
        cases += [(((True,), (0,)), ("lot", 0)), (((1, 0), (0, -1)), ("base", 1)), (([1], (0,)), ("shape",))]
        for sizes, reason in cases:
            for owners in [[0], [], None]:
                with self.subTest(sizes=sizes, owners=owners):
                    self.assertEqual(raised(self, InvalidSizes, deal_board, sizes, owners).reason, reason)

    def test_owners_that_are_no_list(self):
        for owners in [*NOT_LISTS, (0, 1), {0: 0, 1: 1}, "01"]:
            with self.subTest(owners=owners):
                raised(self, InvalidDeal, deal_board, ((1, 1), (0, 0)), owners)
        raised(self, InvalidDeal, deal_board, ((0,), (0,)), ())
        raised(self, InvalidDeal, deal_board, ((0,), (0,)), {})
        raised(self, InvalidDeal, deal_board, ((0,), (0,)), "")
        raised(self, InvalidDeal, deal_board, ((0,), (0,)), None)

    def test_owners_with_other_items(self):
        for value in NOT_NATURAL + [2]:
            for owners in [[value, 1], [0, value], [0, 1, value], [value, 0, 1], [value, value]]:
                with self.subTest(owners=owners):
                    error = raised(self, InvalidDeal, deal_board, ((1, 1), (0, 0)), owners)
                    self.assertEqual(vars(error), {})
        for owners in [[False], [0.0], [[0]], [(0,)], [None], ["0"]]:
            with self.subTest(owners=owners):
                raised(self, InvalidDeal, deal_board, ((1,), (0,)), owners)
        raised(self, InvalidDeal, deal_board, ((1, 1), (0, 0)), [False, True])

    def test_owners_in_wrong_numbers(self):
        for owners in [[], [0], [1], [0, 0], [1, 1], [0, 1, 1], [0, 1, 0], [0, 0, 1, 1]]:
            with self.subTest(owners=owners):
                raised(self, InvalidDeal, deal_board, ((1, 0), (0, 1)), owners)
        raised(self, InvalidDeal, deal_board, ((10 ** 30,), (0,)), [0])

    def test_arguments_by_name(self):
        self.assertEqual(deal_board(owners=[0], sizes=((1,), (0,))), ((1,), ((0,),)))
