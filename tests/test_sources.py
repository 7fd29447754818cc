import itertools
import unittest

from leastpass.boards import check_board
from leastpass.errors import InvalidBoard, InvalidPlan
from leastpass.rounds import play
from leastpass.sources import check_source, find_source, return_time, send_home
from tests.support import (
    ANY_VALUES, BAD_BOARDS, BAD_PLANS, NOT_LISTS, Watched, all_boards, all_plans, all_sizes, board_choice, check_claims,
    is_board, is_number, is_place_of, large_boards_and_plans, plan_choice, raised, raises_first, slow_boards, slow_parts,
    slow_positions, slow_results, some_boards_and_plans,
)

BOARD = ((1, 1), ((5, 7), (1, 3)))
STUCK = ((1, 1), ((1, 2), (3, 4)))
SHIFT = (1, 2, 0)


def slow_home(board, plan):
    """Take the loads out of the hands and put them where they started, [65]."""
    loads, heaps = slow_parts(board)
    ends = slow_positions(len(loads), plan)[-1]
    hands = tuple(tuple(sorted(heaps[place] + loads[ends[place]])) for place in range(len(loads)))
    return tuple(board[0][end] for end in ends), hands


def slow_check_source(board, plan, claim):
    """The list of faults in [67], one after the other."""
    places = len(board[0])
    if type(claim) is not tuple or not claim:
        return ("form",)
    if claim[0] == "source" and len(claim) == 2:
        if not is_board(claim[1]) or len(claim[1][0]) != places:
            return ("form",)
        return None if slow_boards(claim[1], plan)[-1] == board else ("result",)
    if claim[0] != "none" or len(claim) != 6:
        return ("form",)
    _, load, place, time, high, low = claim
    if not is_place_of(places, load) or not is_place_of(places, place) or not is_place_of(len(plan) + 1, time):
        return ("form",)
    if not is_number(high) or not is_number(low):
        return ("form",)
    positions = slow_positions(places, plan)
    if positions[time][load] != place:
        return ("position",)
    loads, heaps = slow_parts(board)
    if high in loads[positions[-1][load]] and low in heaps[place] and high > low:
        return None
    return ("cards",)


def slow_return_time(board, plan):
    """Replay until a board occurs again, [68]."""
    seen = []
    reached = board
    while reached not in seen:
        seen.append(reached)
        reached = slow_boards(reached, plan)[-1]
    # If the first board is not the first to occur again, it does not occur again.
    return len(seen) if reached == board else None


class SendHome(unittest.TestCase):
    """[65]"""

    def check(self, board, plan, result):
        with self.subTest(board=board, plan=plan):
            found = Watched(self).call(send_home, board, plan)
            self.assertEqual(repr(found), repr(result))
            self.assertIsNone(check_board(found))

    def test_example(self):
        self.check(((1, 0), ((5,), (3,))), [(1, 0), (1, 0)], ((1, 0), ((5,), (3,))))

    def test_ordinary(self):
        self.check(((1, 1), ((1, 7), (3, 5))), [(1, 0)], ((1, 1), ((3, 7), (1, 5))))
        self.check(((1, 0), ((5,), (3,))), [(1, 0)], ((0, 1), ((), (3, 5))))
        self.check(((1, 2, 0), ((4, 9), (0, 6, 8), (2, 5))), [SHIFT], ((2, 0, 1), ((0, 6, 9), (8,), (2, 4, 5))))
        self.check(((1, 2, 0), ((4, 9), (0, 6, 8), (2, 5))), [SHIFT, SHIFT], ((0, 1, 2), ((9,), (4, 8), (0, 2, 5, 6))))

    def test_edges(self):
        self.check(BOARD, [], BOARD)
        self.check(BOARD, [(0, 1)] * 3, BOARD)
        self.check(((0,), ((),)), [(0,)], ((0,), ((),)))
        self.check(((1,), ((3, 4),)), [(0,)], ((1,), ((3, 4),)))
        self.check(((0, 0), ((3,), (1,))), [(1, 0)], ((0, 0), ((3,), (1,))))
        self.check(((1, 2), ((3,), (1, 2))), [(1, 0)], ((2, 1), ((1, 2), (3,))))

    def test_a_result_is_made_again(self):
        for board, plan in [*some_boards_and_plans(), *large_boards_and_plans()]:
            self.assertEqual(send_home(board, plan), slow_home(board, plan))
            result = slow_boards(board, plan)[-1]
            self.assertEqual(play(send_home(result, plan), plan), result)


class FindSource(unittest.TestCase):
    """[66]"""

    def check(self, board, plan, word):
        with self.subTest(board=board, plan=plan):
            found = Watched(self).call(find_source, board, plan)
            self.assertEqual(found[0], word)
            self.assertIsNone(slow_check_source(board, plan, found))
            self.assertIsNone(check_source(board, plan, found))

    def test_example(self):
        self.assertEqual(find_source(STUCK, [(1, 0)]), ("none", 0, 0, 0, 3, 2))

    def test_ordinary(self):
        self.check(((1, 1), ((1, 7), (3, 5))), [(1, 0)], "source")
        self.check(((1, 1), ((1, 4), (2, 3))), [(1, 0)], "source")
        self.check(STUCK, [(1, 0)], "none")
        self.check(STUCK, [(1, 0), (1, 0)], "none")
        self.check(STUCK, [(0, 1)], "source")
        self.check(((1, 1, 1), ((1, 7), (2, 8), (5, 6))), [SHIFT], "source")
        self.check(((1, 1, 1), ((1, 2), (3, 8), (5, 6))), [SHIFT], "none")

    def test_edges(self):
        self.check(STUCK, [], "source")
        self.check(((0,), ((),)), [(0,)], "source")
        self.check(((1,), ((3, 4),)), [(0,)], "source")
        self.check(((0, 0), ((3,), (1,))), [(1, 0)], "source")
        self.check(((1, 1), ((3,), (1,))), [(1, 0)], "source")
        self.check(((0, 1), ((3,), (5,))), [(1, 0)], "none")

    def test_all_boards_of_small_sizes(self):
        """A board is a result exactly if it is among those of all boards of the sizes at the beginning."""
        cases = [(sizes, all_plans(1, 2)) for sizes in all_sizes(1, 2)]
        cases += [(sizes, all_plans(2, 2)) for sizes in [*all_sizes(2, 1), ((2, 1), (1, 2)), ((2, 2), (1, 2)), ((0, 3), (2, 1))]]
        cases += [(sizes, all_plans(3, 2)) for sizes in [*list(all_sizes(3, 1))[::5], ((1, 1, 1), (1, 1, 1))]]
        cases += [(((2, 1, 0), (1, 1, 2)), [[SHIFT], [SHIFT, (1, 0, 2)]])]
        for sizes, plans in cases:
            for plan in plans:
                results = slow_results(sizes, plan)
                ends = slow_positions(len(sizes[0]), plan)[-1]
                lots = [0] * len(ends)
                for place, end in enumerate(ends):
                    lots[end] = sizes[0][place]
                for board in all_boards((tuple(lots), sizes[1])):
                    found = find_source(board, plan)
                    self.assertIsNone(slow_check_source(board, plan, found))
                    self.assertEqual(found[0], "source" if board in results else "none")
                    if found[0] == "source":
                        self.assertIn(found[1], results[board])

    def test_limits(self):
        for board, plan in large_boards_and_plans():
            self.check(board, plan, "none" if slow_boards(slow_home(board, plan), plan)[-1] != board else "source")
            self.check(slow_boards(board, plan)[-1], plan, "source")


class CheckSource(unittest.TestCase):
    """[67]"""

    def check(self, board, plan, claim, fault):
        with self.subTest(board=board, plan=plan, claim=claim):
            self.assertEqual(repr(Watched(self).call(check_source, board, plan, claim)), repr(fault))

    def test_example(self):
        self.check(STUCK, [(1, 0)], ("source", ((1, 1), ((2, 3), (1, 4)))), ("result",))

    def test_any_source(self):
        board = ((1, 1), ((1, 4), (2, 3)))
        for source in all_boards(((1, 1), (1, 1))):
            shifted = (source[0], tuple(tuple(card + 1 for card in hand) for hand in source[1]))
            fault = None if slow_boards(shifted, [(1, 0)])[-1] == board else ("result",)
            self.check(board, [(1, 0)], ("source", shifted), fault)
        self.check(board, [], ("source", board), None)
        self.check(board, [], ("source", ((1, 1), ((1, 3), (2, 4)))), ("result",))
        self.check(board, [(1, 0)], ("source", ((1, 1), ((2, 40), (1, 3)))), ("result",))
        self.check(board, [(1, 0)], ("source", ((0, 1), ((2, 4), (1, 3)))), ("result",))

    def test_any_cards(self):
        for claim in itertools.product(range(2), range(2), range(3), range(6), range(6)):
            arguments = (STUCK, [(1, 0), (1, 0)], ("none", *claim))
            self.assertEqual(check_source(*arguments), slow_check_source(*arguments))
        self.check(STUCK, [(1, 0)], ("none", 0, 0, 0, 3, 2), None)
        self.check(STUCK, [(1, 0), (1, 0)], ("none", 1, 0, 1, 3, 2), None)

    def test_form(self):
        for claim in [
            None, "source", ("source",), ["source", STUCK], ("source", STUCK, 0), ("source", None), ("source", ((1,), ((1, 2),))),
            ("source", ((1, 1), ((1, 2), (2, 4)))), ("source", ((1, 1, 0), ((1, 2), (3, 4), ()))), ("source", [(1, 1), ((1, 2), (3, 4))]),
            ("none",), ("none", 0, 0, 0, 3), ("none", 0, 0, 0, 3, 2, 1), ("none", 2, 0, 0, 3, 2), ("none", 0, 2, 0, 3, 2),
            ("none", -1, 0, 0, 3, 2), ("none", 0, 0, 2, 3, 2), ("none", 0, 0, -1, 3, 2), ("none", False, 0, 0, 3, 2),
            ("none", 0, False, 0, 3, 2), ("none", 0, 0, False, 3, 2), ("none", 0, 0, 0, 3.0, 2), ("none", 0, 0, 0, 3, 2.0),
            ("none", 0, 0, 0, True, 2), ("none", 0, 0, 0, 3, None), ("no", 0, 0, 0, 3, 2), ["none", 0, 0, 0, 3, 2], ("none", STUCK),
        ]:
            self.check(STUCK, [(1, 0)], claim, ("form",))

    def test_position(self):
        self.check(STUCK, [(1, 0)], ("none", 0, 1, 0, 3, 2), ("position",))
        self.check(STUCK, [(1, 0)], ("none", 0, 0, 1, 3, 2), ("position",))
        self.check(STUCK, [(1, 0)], ("none", 1, 0, 0, 3, 2), ("position",))

    def test_cards(self):
        self.check(STUCK, [(1, 0)], ("none", 0, 0, 0, 2, 3), ("cards",))
        self.check(STUCK, [(1, 0)], ("none", 0, 0, 0, 1, 2), ("cards",))
        self.check(STUCK, [(1, 0)], ("none", 0, 0, 0, 3, 1), ("cards",))
        self.check(STUCK, [(1, 0)], ("none", 0, 0, 0, 3, 3), ("cards",))
        self.check(STUCK, [(1, 0)], ("none", 0, 0, 0, -3, -4), ("cards",))
        self.check(STUCK, [(1, 0)], ("none", 0, 0, 0, 10 ** 30, 2), ("cards",))
        self.check(STUCK, [(1, 0)], ("none", 0, 1, 1, 3, 4), ("cards",))

    def test_several_faults_at_once(self):
        self.check(STUCK, [(1, 0)], ("none", 1, 0, 2, 9, 9), ("form",))
        self.check(STUCK, [(1, 0)], ("none", 1, 0, 0, 9, 9), ("position",))
        self.check(STUCK, [(1, 0)], ("none", 1, 0, 0, 9, False), ("form",))

    def test_any_claim(self):
        claims = [("source", ((1, 1), ((2, 3), (1, 4)))), ("none", 0, 0, 0, 3, 2), ("none", 1, 0, 1, 3, 2)]
        for board, plan in [(STUCK, [(1, 0)]), (STUCK, [(1, 0), (1, 0)]), (STUCK, []), (((1, 1), ((1, 4), (2, 3))), [(1, 0)])]:
            faults = check_claims(self, check_source, slow_check_source, (board, plan), [*claims, find_source(board, plan)])
            self.assertLessEqual({None, "form", "result", "position", "cards"}, faults)
        check_claims(self, check_source, slow_check_source, (((0,), ((3,),)), []), [("source", ((0,), ((3,),))), ("none", 0, 0, 0, 4, 3)])

    def test_result_of_its_function_changed_in_one_item(self):
        board = ((1, 1), ((1, 4), (2, 3)))
        word, source = find_source(board, [(1, 0)])
        self.check(board, [(1, 0)], (word, source), None)
        self.check(board, [(1, 0)], (word, (source[0], source[1][::-1])), ("result",))
        self.check(board, [(1, 0)], (word, ((1, 1), ((3, 4), (1, 2)))), None)
        self.check(board, [(1, 0)], (word, (source[0], (source[1][0] + (9,), source[1][1]))), ("result",))
        self.check(board, [(1, 0)], ("none", source), ("form",))
        claim = find_source(STUCK, [(1, 0)])
        self.check(STUCK, [(1, 0)], claim, None)
        for at, others in [(1, [1]), (2, [1]), (3, [1]), (4, [1, 2, 4]), (5, [1, 3, 4])]:
            for other in others:
                fault = ("position",) if at < 4 else ("cards",)
                self.check(STUCK, [(1, 0)], (*claim[:at], other, *claim[at + 1:]), fault)

    def test_limits(self):
        for board, plan in large_boards_and_plans():
            found = find_source(board, plan)
            self.assertIsNone(check_source(board, plan, found))
            result = slow_boards(board, plan)[-1]
            self.assertIsNone(check_source(result, plan, ("source", board)))
            fault = None if result == board else ("result",)
            self.assertEqual(check_source(board, plan, ("source", board)), fault)


class ReturnTime(unittest.TestCase):
    """[68]"""

    def check(self, board, plan, result):
        with self.subTest(board=board, plan=plan):
            self.assertEqual(repr(Watched(self).call(return_time, board, plan)), repr(result))

    def test_example(self):
        self.check(((1, 1), ((1, 3), (2, 4))), [(1, 0)], 2)

    def test_ordinary(self):
        self.check(BOARD, [(1, 0)], None)
        self.check(BOARD, [(0, 1)], 1)
        self.check(((1, 1), ((1, 3), (2, 4))), [(1, 0), (1, 0)], 1)
        self.check(((1, 1, 1), ((1,), (2,), (3,))), [SHIFT], 3)
        self.check(((1, 1, 1), ((1,), (2,), (3,))), [(1, 0, 2)], 2)
        self.check(((1, 1, 1), ((1, 7), (2, 8), (3, 6))), [SHIFT, (0, 1, 2)], 3)

    def test_a_board_that_only_changes_later(self):
        # The first repetition changes nothing but the places of the loads.
        self.check(((1, 0, 0), ((5,), (6,), (4,))), [SHIFT], None)
        self.check(((1, 0, 0), ((5,), (6,), (7,))), [SHIFT], 3)

    def test_places_without_cards_to_pass(self):
        self.check(((0, 0), ((3,), (1,))), [(1, 0)], 1)
        self.check(((0, 0, 1), ((3,), (1,), (0,))), [(1, 0, 2)], 1)
        self.check(((0, 1), ((3,), (0,))), [(1, 0)], 2)
        self.check(((0,), ((),)), [(0,)], 1)
        self.check(((1,), ((2, 3),)), [(0,)], 1)
        self.check(((1, 1, 1, 0, 0), ((1,), (2,), (3,), (7,), (8,))), [(1, 2, 0, 4, 3)], 3)
        self.check(((1, 1, 1, 0, 1), ((1,), (2,), (3,), (7,), (4,))), [(1, 2, 0, 4, 3)], 6)

    def test_plain_replay(self):
        for board, plan in some_boards_and_plans():
            if plan:
                self.assertEqual(return_time(board, plan), slow_return_time(board, plan))
                settled = slow_boards(board, plan * 6)[-1]
                self.assertEqual(return_time(settled, plan), slow_return_time(settled, plan))

    def test_limits(self):
        for board, plan in large_boards_and_plans():
            self.assertEqual(return_time(board, plan), slow_return_time(board, plan))
            last = slow_boards(board, plan * 12)[-1]
            self.assertEqual(return_time(last, plan), slow_return_time(last, plan))

    def test_circles_of_different_lengths(self):
        board = ((1,) * 12, tuple((place, 100 + place) for place in range(12)))
        circles = (1, 2, 0, 4, 5, 6, 3, 8, 9, 10, 11, 7)
        self.check(board, [circles], 60)
        self.check(board, [circles, tuple(range(12))] * 20, 3)
        self.check(board, [tuple(range(12))] * 39 + [circles], 60)

    def test_a_plan_without_rounds(self):
        for board in [BOARD, STUCK, ((0,), ((),))]:
            self.assertEqual(vars(raised(self, InvalidPlan, return_time, board, [])), {"reason": ("empty",)})


class Errors(unittest.TestCase):
    """The errors of [65] to [68]."""

    CALLS = [(send_home, ()), (find_source, ()), (return_time, ())] + [
        (check_source, (claim,)) for claim in [("source", BOARD), None, {}, ("none", 0), []]
    ]

    def test_wrong_board(self):
        for value, reason in BAD_BOARDS + [(value, ("shape",)) for value in ANY_VALUES]:
            for function, claims in self.CALLS:
                for plan in [[], None, [(0,)]]:
                    with self.subTest(function=function.__name__, value=value):
                        error = raised(self, InvalidBoard, function, value, plan, *claims)
                        self.assertEqual(vars(error), {"reason": reason})

    def test_wrong_plan(self):
        for plan, reason in BAD_PLANS + [(value, ("plan",)) for value in NOT_LISTS]:
            for function, claims in self.CALLS:
                with self.subTest(function=function.__name__, plan=plan):
                    error = raised(self, InvalidPlan, function, BOARD, plan, *claims)
                    self.assertEqual(vars(error), {"reason": reason})

    def test_order_of_the_errors(self):
        for function, claims in self.CALLS:
            raises_first(self, function, [board_choice(BOARD), plan_choice([(1, 0)]), *[(claim, []) for claim in claims]])
        raises_first(self, return_time, [
            board_choice(BOARD), ([(1, 0)], [((), (InvalidPlan, {"reason": ("plan",)})), ([], (InvalidPlan, {"reason": ("empty",)}))]),
        ])

    def test_arguments_by_name(self):
        self.assertEqual(send_home(plan=[(1, 0)], board=((1, 0), ((5,), (3,)))), ((0, 1), ((), (3, 5))))
        self.assertEqual(find_source(plan=[(1, 0)], board=STUCK), ("none", 0, 0, 0, 3, 2))
        self.assertEqual(check_source(claim=("source", STUCK), plan=[(1, 0)], board=STUCK), ("result",))
        self.assertEqual(return_time(plan=[(0, 1)], board=STUCK), 1)

    def test_plans_longer_than_the_limit(self):
        plan = [SHIFT] * 100
        board = ((1, 1, 1), ((9, 10), (4, 6), (1, 2)))
        result = slow_boards(board, plan)[-1]
        self.assertEqual(send_home(result, plan), slow_home(result, plan))
        self.assertEqual(find_source(result, plan), ("source", slow_home(result, plan)))
        self.assertEqual(find_source(board, plan)[0], "none")
        self.assertEqual(return_time(result, plan), 3)
