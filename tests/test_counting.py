import fractions
import math
import unittest

from leastpass.boards import card_owners, check_board
from leastpass.counting import (
    card_probability, count_deals, count_reachable, count_sources, count_unsettled, source_at, source_index,
)
from leastpass.errors import IndexTooLarge, InvalidBoard, InvalidCard, InvalidPlace, InvalidPlan, InvalidSizes, ProblemTooLarge
from leastpass.sources import find_source, send_home
from tests.support import (
    ANY_VALUES, BAD_BOARDS, BAD_PLANS, BAD_SIZES, NOT_LISTS, NOT_NATURAL, Watched, all_boards, all_plans, all_sizes,
    board_choice, plan_choice, raised, raises_first, sizes_choice, slow_board, slow_boards, slow_misplaced, slow_positions,
    slow_results,
)

TWO = ((1, 1), (1, 1))
BOARD = ((1, 1), ((1, 4), (2, 3)))
SOURCES = [((1, 1), ((2, 4), (1, 3))), ((1, 1), ((3, 4), (1, 2)))]
SHIFT = (1, 2, 0)
# The same hands as tuples of lots and bases: their product is 4096.
EXACTLY = [
    ((1, 0) * 6, (0, 1) * 6), ((2, 1) * 3, (1, 2) * 3), ((7, 8, 15), (8, 7, 0)), ((3, 4, 0, 7), (4, 3, 7, 0)), ((30, 20), (33, 43)),
    ((4095,), (0,)), ((0,), (4095,)), ((5, 0, 1, 2, 0, 0), (2, 1, 2, 1, 1, 7)),
]
# One above, and a little more within the limits of [3].
ABOVE = [(((4096,), (0,)), 4097), (((10, 100), (6, 140)), 4097), (((8, 8, 8), (7, 7, 8)), 4352), (((1,) * 12, (0,) * 11 + (1,)), 6144)]


def cases():
    """Yield sizes and plans of one to three places and at most seven cards."""
    for sizes in all_sizes(1, 2):
        for plan in all_plans(1, 2):
            yield sizes, plan
    for sizes in [*all_sizes(2, 1), ((2, 1), (1, 2)), ((2, 2), (1, 2)), ((0, 3), (2, 1))]:
        for plan in all_plans(2, 2):
            yield sizes, plan
    for sizes in [*list(all_sizes(3, 1))[::4], ((1, 1, 1), (1, 1, 1))]:
        for plan in list(all_plans(3, 2))[::2]:
            yield sizes, plan
    for sizes in [((2, 1, 0), (1, 1, 2)), ((1, 1, 2), (2, 0, 1)), ((0, 2, 1), (2, 1, 1))]:
        for plan in [[], [SHIFT], [SHIFT, SHIFT], [(1, 0, 2), SHIFT, (0, 2, 1)]]:
            yield sizes, plan


def lots_after(sizes, plan):
    ends = slow_positions(len(sizes[0]), plan)[-1]
    return tuple(sizes[0][ends.index(place)] for place in range(len(ends)))


def spread(board):
    """The same board with other cards."""
    return board[0], tuple(tuple(7 * card + 3 for card in hand) for hand in board[1])


def dealt_in_turn(sizes):
    """A board of these sizes on which neighbouring cards mostly lie at different places."""
    left = [lot + base for lot, base in zip(*sizes)]
    owners = []
    while any(left):
        for place in [place for place, many in enumerate(left) if many]:
            owners.append(place)
            left[place] -= 1
    return slow_board(sizes, owners)


def long_plan(places):
    same = tuple(range(places))
    return [same[1:] + same[:1], same[::-1], same] * 13 + [same[1:] + same[:1]]


class Sources(unittest.TestCase):
    """[81] to [83]"""

    def test_examples(self):
        self.assertEqual(count_sources(BOARD, [(1, 0)]), 2)
        self.assertEqual(source_at(BOARD, [(1, 0)], 0), ((1, 1), ((2, 4), (1, 3))))
        self.assertEqual(vars(raised(self, IndexTooLarge, source_at, BOARD, [(1, 0)], 2)), {"count": 2})
        self.assertEqual(source_index(BOARD, [(1, 0)], ((1, 1), ((3, 4), (1, 2)))), 1)

    def test_conventions(self):
        for arguments in [(BOARD, [(1, 0)]), (BOARD, []), (((0,), ((),)), [(0,)])]:
            Watched(self).call(count_sources, *arguments)
            Watched(self).call(source_at, *arguments, 0)
            Watched(self).call(source_index, *arguments, BOARD)

    def test_all_boards_of_small_sizes(self):
        for sizes, plan in cases():
            results = slow_results(sizes, plan)
            for board in all_boards((lots_after(sizes, plan), sizes[1])):
                self.check(board, plan, results.get(board, []))

    def check(self, board, plan, sources):
        with self.subTest(board=board, plan=plan):
            self.assertEqual(count_sources(board, plan), len(sources))
            for index, source in enumerate(sources):
                self.assertEqual(source_at(board, plan, index), source)
                self.assertEqual(source_index(board, plan, source), index)
            for index in [-1, len(sources), True, None]:
                error = raised(self, IndexTooLarge, source_at, board, plan, index)
                self.assertEqual(vars(error), {"count": len(sources)})
            if sources:
                self.assertEqual(source_at(spread(board), plan, len(sources) - 1), spread(sources[-1]))
                self.assertEqual(source_index(spread(board), plan, spread(sources[-1])), len(sources) - 1)

    def test_boards_that_are_no_source(self):
        for sizes, plan in list(cases())[::5]:
            results = slow_results(sizes, plan)
            for board in results:
                for source in all_boards(sizes):
                    expected = results[board].index(source) if source in results[board] else None
                    self.assertEqual(source_index(board, plan, source), expected)

    def test_sources_of_other_kinds(self):
        for source in [
            ((1,), ((1, 2),)), ((1, 1, 0), ((1, 4), (2, 3), ())), ((1, 0), ((2, 4), (1, 3))), ((1, 1), ((2, 4), (1, 5))),
            ((1, 1), ((2, 4), (1, 3, 9))), ((1, 1), ((2, 4), (1,))), ((0, 0), ((2, 4), (1, 3))), ((0,), ((),)),
        ]:
            self.assertIsNone(source_index(BOARD, [(1, 0)], source))

    def test_edges(self):
        for board, plan in [
            (((0,), ((),)), []), (((0,), ((),)), [(0,)]), (((1,), ((3, 4),)), [(0,)]), (((0, 0), ((3,), (1,))), [(1, 0)]),
            (((1, 1), ((3,), (1,))), [(1, 0)]), (BOARD, []), (BOARD, [(0, 1)] * 3),
        ]:
            with self.subTest(board=board, plan=plan):
                self.assertEqual(count_sources(board, plan), 1)
                self.assertEqual(source_at(board, plan, 0), send_home(board, plan))
                self.assertEqual(source_index(board, plan, send_home(board, plan)), 0)
        self.assertEqual(count_sources(((1, 1), ((1, 2), (3, 4))), [(1, 0)]), 0)
        self.assertEqual(vars(raised(self, IndexTooLarge, source_at, ((1, 1), ((1, 2), (3, 4))), [(1, 0)], 0)), {"count": 0})

    def test_sorted_by_owner_lists(self):
        plan = [SHIFT, SHIFT]
        results = slow_results(((2, 1, 1), (1, 1, 1)), plan)
        board = max(results, key=lambda result: len(results[result]))
        owners = [card_owners(source_at(board, plan, index)) for index in range(count_sources(board, plan))]
        self.assertGreater(len(owners), 9)
        self.assertEqual(owners, sorted(owners))

    def test_a_product_of_exactly_the_limit(self):
        for sizes in EXACTLY:
            plan = long_plan(len(sizes[0]))
            start = dealt_in_turn(sizes)
            board = slow_boards(start, plan)[-1]
            count = count_sources(board, plan)
            self.assertGreater(count, 0)
            for index in {0, count // 3, count - 1}:
                source = source_at(board, plan, index)
                self.assertIsNone(check_board(source))
                self.assertEqual(slow_boards(source, plan)[-1], board)
                self.assertEqual(source_index(board, plan, source), index)
            found = source_index(board, plan, start)
            self.assertEqual(source_at(board, plan, found), start)
            self.assertEqual(find_source(board, plan)[0], "source")
            raised(self, IndexTooLarge, source_at, board, plan, count)

    def test_too_large(self):
        for sizes, count in [*ABOVE, (((12,) * 12, (12,) * 12), 25 ** 12)]:
            plan = long_plan(len(sizes[0]))
            board = slow_boards(dealt_in_turn(sizes), plan)[-1]
            for function, *more in [(count_sources,), (source_at, 0), (source_at, -1), (source_at, None), (source_index, board), (source_index, BOARD)]:
                self.assertEqual(vars(raised(self, ProblemTooLarge, function, board, plan, *more)), {"count": count})

    def test_the_board_at_the_beginning_counts(self):
        # One load of 64 cards is at the place with 64 cards in its heap, or at the place with none.
        together = ((0, 64), ((), tuple(range(128))))
        apart = ((64, 0), (tuple(range(64)), tuple(range(64, 128))))
        for board, large, small in [(together, [(1, 0)], []), (apart, [], [(1, 0)])]:
            for function, *more in [(count_sources,), (source_at, 0), (source_index, BOARD)]:
                self.assertEqual(vars(raised(self, ProblemTooLarge, function, board, large, *more)), {"count": 65 * 65})
            self.assertEqual(count_sources(board, small), 1)
            self.assertEqual(source_at(board, small, 0), send_home(board, small))
            self.assertIsNone(source_index(board, small, BOARD))


class Deals(unittest.TestCase):
    """[84] to [87]"""

    def test_examples(self):
        self.assertEqual(count_deals(TWO), 6)
        self.assertEqual(count_unsettled(TWO, []), 2)
        self.assertEqual(count_reachable(TWO, [(1, 0)]), 4)
        self.assertEqual(card_probability(TWO, [(1, 0)], 0, 0, 1), (1, 1))
        self.assertEqual(vars(raised(self, InvalidCard, card_probability, TWO, [], 4, 9, 9)), {"card": 4})

    def test_conventions(self):
        for sizes, plan in [(TWO, [(1, 0)]), (((1, 0), (0, 0)), []), (((1, 2), (3, 4)), [(1, 0), (0, 1)])]:
            Watched(self).call(count_deals, sizes)
            Watched(self).call(count_unsettled, sizes, plan)
            Watched(self).call(count_reachable, sizes, plan)
            Watched(self).call(card_probability, sizes, plan, 0, 0, 1)

    def test_all_boards_of_small_sizes(self):
        for sizes, plan in cases():
            with self.subTest(sizes=sizes, plan=plan):
                boards = list(all_boards(sizes))
                results = [slow_boards(board, plan)[-1] for board in boards]
                self.assertEqual(count_deals(sizes), len(boards))
                self.assertEqual(count_unsettled(sizes, plan), sum(slow_misplaced(board) > 0 for board in results))
                self.assertEqual(count_reachable(sizes, plan), len(set(results)))
                self.check_probabilities(sizes, plan, list(zip(boards, results)))

    def check_probabilities(self, sizes, plan, pairs):
        places = range(len(sizes[0]))
        for card in range(sum(sizes[0]) + sum(sizes[1])):
            for start in places:
                ends = [place for board, result in pairs if card in board[1][start] for place in places if card in result[1][place]]
                for end in places:
                    share = fractions.Fraction(ends.count(end), len(ends)) if ends else fractions.Fraction(0, 1)
                    found = card_probability(sizes, plan, card, start, end)
                    self.assertEqual(repr(found), repr((share.numerator, share.denominator)))

    def test_edges(self):
        for sizes in [((0,), (0,)), ((0, 0), (0, 0))]:
            for plan in [[], [tuple(range(len(sizes[0])))]]:
                self.assertEqual(count_deals(sizes), 1)
                self.assertEqual(count_unsettled(sizes, plan), 0)
                self.assertEqual(count_reachable(sizes, plan), 1)
                self.assertEqual(raised(self, InvalidCard, card_probability, sizes, plan, 0, 0, 0).card, 0)
        self.assertEqual(card_probability(((0, 1), (0, 0)), [], 0, 0, 1), (0, 1))
        self.assertEqual(card_probability(((0, 1), (0, 0)), [], 0, 0, 0), (0, 1))
        self.assertEqual(card_probability(((0, 1), (0, 0)), [(1, 0)], 0, 1, 0), (1, 1))
        self.assertEqual(card_probability(((0, 1), (0, 0)), [(1, 0)], 0, 1, 1), (0, 1))
        self.assertEqual(card_probability(((1,), (1,)), [(0,)], 1, 0, 0), (1, 1))

    def test_a_product_of_exactly_the_limit(self):
        for sizes in EXACTLY:
            places = len(sizes[0])
            hands = [lot + base for lot, base in zip(*sizes)]
            deals = math.factorial(sum(hands))
            for size in hands:
                deals //= math.factorial(size)
            self.assertEqual(count_deals(sizes), deals)
            self.assertEqual(count_reachable(sizes, []), deals)
            for plan in [[tuple(range(places))] * 40, long_plan(places)]:
                self.assertLessEqual(count_unsettled(sizes, plan), deals)
                self.assertLessEqual(count_reachable(sizes, plan), deals)
                shares = [fractions.Fraction(*card_probability(sizes, plan, sum(hands) // 2, 0, end)) for end in range(places)]
                self.assertEqual(sum(shares), 1)
            shift = tuple(range(1, places)) + (0,)
            self.assertEqual(count_unsettled(sizes, [shift] * (places - 1)), 0)

    def test_the_reachable_boards_have_all_sources(self):
        sizes = ((1, 2, 1), (1, 0, 2))
        for plan in [[SHIFT], [SHIFT, SHIFT], [(1, 0, 2)]]:
            boards = list(all_boards((lots_after(sizes, plan), sizes[1])))
            counts = [count_sources(board, plan) for board in boards]
            self.assertEqual(sum(counts), count_deals(sizes))
            self.assertEqual(sum(count > 0 for count in counts), count_reachable(sizes, plan))

    def test_too_large(self):
        for sizes, count in [*ABOVE, (((12,) * 12, (12,) * 12), 25 ** 12), (((24,) * 12, (0,) * 12), 25 ** 12)]:
            plan = long_plan(len(sizes[0]))
            for function, *more in [(count_deals,), (count_unsettled, plan), (count_reachable, plan), (card_probability, plan, 0, 0, 0)]:
                self.assertEqual(vars(raised(self, ProblemTooLarge, function, sizes, *more)), {"count": count})

    def test_plans_longer_than_the_limit(self):
        sizes = ((1, 2, 1), (1, 0, 2))
        self.assertEqual(count_reachable(sizes, [SHIFT] * 200), count_reachable(sizes, [SHIFT] * 5))
        self.assertEqual(count_unsettled(sizes, [SHIFT] * 200), 0)
        board = slow_boards(dealt_in_turn(sizes), [SHIFT] * 200)[-1]
        self.assertEqual(count_sources(board, [SHIFT] * 200), count_sources(board, [SHIFT] * 5))


class Errors(unittest.TestCase):
    """The errors of [80] to [87]."""

    BOARDS = [(count_sources, ()), (source_at, (0,)), (source_at, (-1,)), (source_index, (BOARD,)), (source_index, (None,))]
    SIZES = [(count_unsettled, ()), (count_reachable, ()), (card_probability, (0, 0, 0)), (card_probability, (None, 9, -1))]
    LARGE = ((16, 240), (tuple(range(16)), tuple(range(16, 256))))

    def test_wrong_board_or_sizes(self):
        for value, reason in BAD_BOARDS + [(value, ("shape",)) for value in ANY_VALUES]:
            for function, more in self.BOARDS:
                for plan in [[], None]:
                    error = raised(self, InvalidBoard, function, value, plan, *more)
                    self.assertEqual(vars(error), {"reason": reason})
            error = raised(self, InvalidBoard, source_index, BOARD, [], value)
            self.assertEqual(vars(error), {"reason": reason})
        for value, reason in BAD_SIZES + [(value, ("shape",)) for value in ANY_VALUES]:
            self.assertEqual(vars(raised(self, InvalidSizes, count_deals, value)), {"reason": reason})
            for function, more in self.SIZES:
                for plan in [[], None]:
                    error = raised(self, InvalidSizes, function, value, plan, *more)
                    self.assertEqual(vars(error), {"reason": reason})

    def test_wrong_plan(self):
        for plan, reason in BAD_PLANS + [(value, ("plan",)) for value in NOT_LISTS]:
            for first, calls in [(BOARD, self.BOARDS), (self.LARGE, self.BOARDS), (TWO, self.SIZES), (((16, 240), (0, 0)), self.SIZES)]:
                for function, more in calls:
                    error = raised(self, InvalidPlan, function, first, plan, *more)
                    self.assertEqual(vars(error), {"reason": reason})

    def test_wrong_index(self):
        for index in NOT_NATURAL + [2, 3, 10 ** 30, "0", (0,), [0], 0.0, 1.0]:
            with self.subTest(index=index):
                self.assertEqual(vars(raised(self, IndexTooLarge, source_at, BOARD, [(1, 0)], index)), {"count": 2})

    def test_wrong_card_and_places(self):
        for card in NOT_NATURAL + [4, 5, 10 ** 30, 1.0, "1"]:
            for places in [(0, 0), (None, True)]:
                error = raised(self, InvalidCard, card_probability, TWO, [], card, *places)
                self.assertEqual(list(vars(error)), ["card"])
                self.assertIs(error.card, card)
        for place in NOT_NATURAL + [2, 10 ** 30, 1.0, "1"]:
            for arguments in [(place, 0), (place, -1), (0, place)]:
                error = raised(self, InvalidPlace, card_probability, TWO, [], 3, *arguments)
                self.assertEqual(list(vars(error)), ["place"])
                self.assertIs(error.place, place)

    def test_order_of_the_errors(self):
        boards = board_choice(BOARD)
        plans = plan_choice([(1, 0)])
        indexes = (1, [(value, (IndexTooLarge, {"count": 2})) for value in [-1, 2, True, None, "1", 1.0]])
        raises_first(self, count_sources, [boards, plans])
        raises_first(self, source_at, [boards, plans, indexes])
        raises_first(self, source_index, [boards, plans, board_choice(SOURCES[0])])
        raises_first(self, count_deals, [sizes_choice(TWO)])
        raises_first(self, count_unsettled, [sizes_choice(TWO), plans])
        raises_first(self, count_reachable, [sizes_choice(TWO), plans])
        raises_first(self, card_probability, [
            sizes_choice(TWO), plans,
            (1, [(value, (InvalidCard, {"card": value})) for value in [-1, 4, True, None]]),
            (1, [(value, (InvalidPlace, {"place": value})) for value in [-1, 2, True]]),
            (1, [(value, (InvalidPlace, {"place": value})) for value in [-2, 3, None]]),
        ])

    def test_too_large_comes_after_the_errors_about_the_arguments(self):
        # The last argument stands for the product, which is too large whatever the others are.
        large = ("large", [("large", (ProblemTooLarge, {"count": 17 * 241}))])
        board = (self.LARGE, board_choice(BOARD)[1])
        sizes = (((16, 240), (0, 0)), sizes_choice(TWO)[1])
        plan = plan_choice([(1, 0)])
        raises_first(self, lambda board, plan, _: count_sources(board, plan), [board, plan, large])
        for index in [0, -1, True, None, "0"]:
            raises_first(self, lambda board, plan, index, _: source_at(board, plan, index), [board, plan, (index, []), large])
        for source in [BOARD, self.LARGE, ((0,), ((),))]:
            raises_first(self, lambda board, plan, source, _: source_index(board, plan, source), [
                board, plan, (source, board_choice(BOARD)[1]), large,
            ])
        raises_first(self, lambda sizes, _: count_deals(sizes), [sizes, large])
        raises_first(self, lambda sizes, plan, _: count_unsettled(sizes, plan), [sizes, plan, large])
        raises_first(self, lambda sizes, plan, _: count_reachable(sizes, plan), [sizes, plan, large])
        raises_first(self, lambda sizes, plan, card, start, end, _: card_probability(sizes, plan, card, start, end), [
            sizes, plan,
            (255, [(value, (InvalidCard, {"card": value})) for value in [256, -1, True]]),
            (1, [(value, (InvalidPlace, {"place": value})) for value in [2, False]]),
            (0, [(value, (InvalidPlace, {"place": value})) for value in [-1, None]]),
            large,
        ])

    def test_arguments_by_name(self):
        self.assertEqual(count_sources(plan=[(1, 0)], board=BOARD), 2)
        self.assertEqual(source_at(index=1, plan=[(1, 0)], board=BOARD), SOURCES[1])
        self.assertEqual(source_index(source=SOURCES[1], plan=[(1, 0)], board=BOARD), 1)
        self.assertEqual(count_deals(sizes=TWO), 6)
        self.assertEqual(count_unsettled(plan=[], sizes=TWO), 2)
        self.assertEqual(count_reachable(plan=[(1, 0)], sizes=TWO), 4)
        self.assertEqual(card_probability(end=1, start=0, card=0, plan=[(1, 0)], sizes=TWO), (1, 1))
