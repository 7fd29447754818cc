import itertools
import unittest

from leastpass.counting import count_last_rounds, last_round_at, last_round_index
from leastpass.errors import IndexTooLarge, InvalidBoard, InvalidRound
from leastpass.sources import find_source
from tests.support import (
    ANY_VALUES, BAD_BOARDS, NOT_NATURAL, NOT_TUPLES, Watched, all_boards, all_sizes, board_choice, large_boards_and_plans,
    raised, raises_first, slow_boards, slow_parts, slow_round, spread_board,
)

STUCK = ((1, 1), ((1, 2), (3, 4)))
BOARD = ((1, 1), ((1, 4), (2, 3)))
FUNCTIONS = [(count_last_rounds, ()), (last_round_at, (0,)), (last_round_index, ((1, 0),))]


def slow_last_rounds(board):
    """Try all rounds and all choices of the cards that came, each as a board that is played."""
    return [permutation for permutation in itertools.permutations(range(len(board[0]))) if has_source(board, permutation)]


def has_source(board, permutation):
    lots, hands = board
    for came in itertools.product(*[list(itertools.combinations(hand, lot)) for lot, hand in zip(lots, hands)]):
        before = []
        for giver, taker in enumerate(permutation):
            kept = [card for card in hands[giver] if card not in came[giver]]
            before.append(tuple(sorted([*kept, *came[taker]])))
        source = tuple(lots[taker] for taker in permutation), tuple(before)
        if slow_round(source, permutation) == board:
            return True
    return False


def allowed(board, giver, taker):
    """The condition in [88]."""
    loads, heaps = slow_parts(board)
    return not loads[taker] or not heaps[giver] or loads[taker][-1] < heaps[giver][0]


def slow_count(board):
    """Count the rounds by the sets of places that the first places have passed to."""
    places = range(len(board[0]))
    counts = {0: 1}
    for giver in places:
        further = {}
        takers = [taker for taker in places if allowed(board, giver, taker)]
        for taken, count in counts.items():
            for taker in takers:
                if not taken >> taker & 1:
                    further[taken | 1 << taker] = further.get(taken | 1 << taker, 0) + count
        counts = further
    return sum(counts.values())


def large_boards():
    for board, plan in large_boards_and_plans():
        boards = slow_boards(board, plan)
        yield from [boards[0], boards[1], boards[-1]]
    # Some loads and heaps are empty, and the others lie at different heights.
    lots = (1, 0, 2, 1, 0, 1, 3, 1, 0, 1, 1, 2)
    hands = tuple(tuple(range(20 * place, 20 * place + lot)) + tuple(range(30 * place + 31, 30 * place + 31 + place % 3))
                  for place, lot in enumerate(lots))
    yield lots, tuple(tuple(card * 1000 + place for card in hand) for place, hand in enumerate(hands))
    yield spread_board(12, 0, 24, 5)
    yield spread_board(12, 24, 24, 5)


class LastRounds(unittest.TestCase):
    """[88] and [89]"""

    def check(self, board, rounds):
        with self.subTest(board=board):
            self.assertEqual(repr(count_last_rounds(board)), repr(len(rounds)))
            for index, permutation in enumerate(rounds):
                self.assertEqual(repr(last_round_at(board, index)), repr(permutation))
            for permutation in itertools.permutations(range(len(board[0]))):
                index = rounds.index(permutation) if permutation in rounds else None
                self.assertEqual(repr(last_round_index(board, permutation)), repr(index))
            for index in [-1, len(rounds), True]:
                self.assertEqual(vars(raised(self, IndexTooLarge, last_round_at, board, index)), {"count": len(rounds)})

    def test_examples(self):
        self.assertEqual(count_last_rounds(STUCK), 1)
        self.assertEqual(last_round_at(BOARD, 1), (1, 0))
        self.assertIsNone(last_round_index(STUCK, (1, 0)))

    def test_ordinary(self):
        self.check(STUCK, [(0, 1)])
        self.check(BOARD, [(0, 1), (1, 0)])
        self.check(((1, 1, 1), ((1, 4), (2, 5), (3, 6))), list(itertools.permutations(range(3))))
        self.check(((1, 1, 1), ((1, 2), (3, 5), (4, 6))), [(0, 1, 2), (0, 2, 1)])
        self.check(((1, 1, 1), ((4, 6), (3, 5), (1, 2))), [(0, 1, 2), (1, 0, 2)])

    def test_edges(self):
        self.check(((0,), ((),)), [(0,)])
        self.check(((1,), ((3, 4),)), [(0,)])
        self.check(((0, 0), ((3,), (1,))), [(0, 1), (1, 0)])
        self.check(((1, 1), ((3,), (1,))), [(0, 1), (1, 0)])
        self.check(((0, 1), ((3,), (5,))), [(0, 1)])
        self.check(((0, 1), ((5,), (3,))), [(0, 1), (1, 0)])
        self.check(((0, 0, 0), ((), (), ())), list(itertools.permutations(range(3))))

    def test_conventions(self):
        for board in [STUCK, BOARD, ((0,), ((),))]:
            Watched(self).call(count_last_rounds, board)
            Watched(self).call(last_round_at, board, 0)
            Watched(self).call(last_round_index, board, tuple(range(len(board[0]))))

    def test_all_small_boards(self):
        sizes = [*all_sizes(1, 2), *all_sizes(2, 1), *all_sizes(3, 1), ((2, 1), (1, 2)), ((0, 2), (3, 1)), ((2, 1, 1), (1, 0, 1))]
        for board in [board for size in sizes for board in all_boards(size)]:
            self.check(board, slow_last_rounds(board))

    def test_boards_of_four_places(self):
        for board in list(all_boards(((1, 1, 1, 1), (1, 1, 1, 0))))[::7]:
            self.check(board, slow_last_rounds(board))

    def test_limits(self):
        for board in large_boards():
            count = count_last_rounds(board)
            self.assertEqual(count, slow_count(board))
            places = len(board[0])
            indexes = sorted({0, 1, 2, count // 3, count // 2, count - 2, count - 1})
            indexes = [index for index in indexes if 0 <= index < count]
            rounds = [last_round_at(board, index) for index in indexes]
            self.assertEqual(rounds, sorted(rounds))
            for index, permutation in zip(indexes, rounds):
                self.assertEqual(sorted(permutation), list(range(places)))
                self.assertEqual(last_round_index(board, permutation), index)
                self.assertEqual(find_source(board, [permutation])[0], "source")
            for shift in range(places):
                permutation = tuple((place + shift) % places for place in range(places))
                fits = all(allowed(board, giver, taker) for giver, taker in enumerate(permutation))
                self.assertEqual(last_round_index(board, permutation) is not None, fits)
            raised(self, IndexTooLarge, last_round_at, board, count)

    def test_all_rounds_of_many_places(self):
        board = ((1,) * 12, tuple((place, 100 + place) for place in range(12)))
        self.assertEqual(count_last_rounds(board), 479001600)
        self.assertEqual(last_round_at(board, 479001599), tuple(range(11, -1, -1)))
        self.assertEqual(last_round_index(board, tuple(range(11, -1, -1))), 479001599)
        self.assertEqual(last_round_at(board, 0), tuple(range(12)))


class Errors(unittest.TestCase):
    """The errors of [88] and [89]."""

    def test_wrong_board(self):
        for value, reason in BAD_BOARDS + [(value, ("shape",)) for value in ANY_VALUES]:
            for function, more in [*FUNCTIONS, (last_round_at, (-1,)), (last_round_index, (None,))]:
                with self.subTest(function=function.__name__, value=value):
                    self.assertEqual(vars(raised(self, InvalidBoard, function, value, *more)), {"reason": reason})

    def test_wrong_index(self):
        for index in NOT_NATURAL + [2, 10 ** 30, 0.0, 1.0, "0", [0], (0,)]:
            with self.subTest(index=index):
                self.assertEqual(vars(raised(self, IndexTooLarge, last_round_at, BOARD, index)), {"count": 2})

    def test_wrong_round(self):
        values = [value for value in ANY_VALUES if value != (1, 0)] + NOT_TUPLES
        values += [(1, 1), (0, 2), (0,), (0, 1, 2), [1, 0], (True, 0), (1, False), (0, 1.0), (-1, 0), ("0", "1"), (None, 0)]
        for board in [BOARD, STUCK]:
            for permutation in values:
                with self.subTest(permutation=permutation):
                    self.assertEqual(vars(raised(self, InvalidRound, last_round_index, board, permutation)), {})

    def test_order_of_the_errors(self):
        raises_first(self, count_last_rounds, [board_choice(BOARD)])
        raises_first(self, last_round_at, [
            board_choice(BOARD), (1, [(value, (IndexTooLarge, {"count": 2})) for value in [-1, 2, True, None]]),
        ])
        raises_first(self, last_round_index, [
            board_choice(BOARD), ((1, 0), [(value, (InvalidRound, {})) for value in [(1, 1), [1, 0], (True, 0), None]]),
        ])

    def test_arguments_by_name(self):
        self.assertEqual(count_last_rounds(board=BOARD), 2)
        self.assertEqual(last_round_at(index=1, board=BOARD), (1, 0))
        self.assertEqual(last_round_index(permutation=(1, 0), board=BOARD), 1)
