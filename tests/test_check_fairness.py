import unittest

from leastpass.fairness import check_fairness, check_misplacement, judge_fairness, worst_misplacement
from tests.support import (
    ANY_VALUES, Watched, all_boards, check_claims, is_board, is_place_of, slow_boards, slow_misplaced, slow_missed,
    slow_parts, slow_positions, slow_sizes,
)

TWO = ((1, 1), (1, 1))
THREE = ((1, 1, 1), (1, 1, 1))
SHIFT = (1, 2, 0)
FIVE = ((1, 1, 2, 0, 0), (0, 0, 0, 1, 1))
FIVE_BOARD = (FIVE[0], ((4,), (1,), (2, 3), (0,), (5,)))


def slow_check_fairness(sizes, plan, claim):
    """The list of faults in [45], one after the other."""
    missed = slow_missed(sizes, plan)
    if repr(claim) == "('fair',)":
        return ("missed", *missed[0]) if missed else None
    if type(claim) is not tuple or len(claim) != 4 or claim[0] != "unfair":
        return ("form",)
    _, load, place, board = claim
    places = len(sizes[0])
    if not is_place_of(places, load) or not is_place_of(places, place) or not is_board(board):
        return ("form",)
    if (load, place) not in missed:
        return ("missed", load, place)
    if slow_sizes(board) != sizes:
        return ("sizes",)
    loads, heaps = slow_parts(slow_boards(board, plan)[-1])
    if not any(high > low for high in loads[slow_positions(places, plan)[-1][load]] for low in heaps[place]):
        return ("order",)
    return None


def slow_check_misplacement(sizes, plan, claim):
    """The list of faults in [48], one after the other."""
    if type(claim) is not tuple or len(claim) != 2 or type(claim[0]) is not int or claim[0] < 0:
        return ("form",)
    number, board = claim
    if not is_board(board):
        return ("form",)
    if slow_sizes(board) != sizes:
        return ("sizes",)
    if slow_misplaced(slow_boards(board, plan)[-1]) != number:
        return ("number",)
    return slow_more(sizes, plan, number)


def slow_more(sizes, plan, number):
    lots, bases = sizes
    places = range(len(lots))
    missed = slow_missed(sizes, plan)
    subsets = [tuple(place for place in places if chosen >> place & 1) for chosen in range(1 << len(lots))]
    for loads in sorted(subsets):
        shared = tuple(place for place in places if all((load, place) in missed for load in loads))
        if min(sum(lots[load] for load in loads), sum(bases[place] for place in shared)) > number:
            return ("more", loads, shared)
    return None


class CheckFairness(unittest.TestCase):
    """[45]"""

    def check(self, sizes, plan, claim, fault):
        with self.subTest(sizes=sizes, plan=plan, claim=claim):
            self.assertEqual(repr(Watched(self).call(check_fairness, sizes, plan, claim)), repr(fault))

    def test_example(self):
        self.check(TWO, [], ("fair",), ("missed", 0, 1))

    def test_fair(self):
        self.check(TWO, [(1, 0)], ("fair",), None)
        self.check(TWO, [(0, 1)], ("fair",), ("missed", 0, 1))
        self.check(THREE, [SHIFT], ("fair",), ("missed", 0, 2))
        self.check(((1,), (1,)), [], ("fair",), None)
        self.check(((0, 0), (3, 3)), [], ("fair",), None)

    def test_any_missed_pair_and_any_board(self):
        boards = list(all_boards(TWO))
        for load, place in [(0, 1), (1, 0)]:
            for board in boards:
                loads, heaps = slow_parts(board)
                fault = None if loads[load] > heaps[place] else ("order",)
                self.check(TWO, [], ("unfair", load, place, board), fault)
        self.check(THREE, [SHIFT], ("unfair", 1, 0, ((1, 1, 1), ((10, 20), (40, 50), (1, 70)))), None)
        self.check(THREE, [SHIFT], ("unfair", 1, 0, ((1, 1, 1), ((10, 45), (46, 50), (1, 70)))), None)
        self.check(THREE, [SHIFT], ("unfair", 1, 0, ((1, 1, 1), ((10, 60), (40, 50), (1, 70)))), ("order",))

    def test_the_load_is_where_it_ends(self):
        # The load of 1 ends at 2 with card 20, because it meets the heap there.
        self.check(THREE, [SHIFT], ("unfair", 1, 0, ((1, 1, 1), ((10, 30), (40, 50), (1, 20)))), ("order",))
        self.check(THREE, [SHIFT], ("unfair", 1, 0, ((1, 1, 1), ((10, 15), (40, 50), (1, 20)))), None)

    def test_faults(self):
        board = ((1, 1), ((2, 3), (0, 1)))
        self.check(TWO, [], ("unfair", 0, 1, board), None)
        self.check(TWO, [], ("unfair", 1, 0, board), ("order",))
        self.check(TWO, [], ("unfair", 1, 1, board), ("missed", 1, 1))
        self.check(TWO, [(1, 0)], ("unfair", 0, 1, board), ("missed", 0, 1))
        self.check(TWO, [], ("unfair", 0, 2, board), ("form",))
        self.check(TWO, [], ("unfair", False, True, board), ("form",))
        self.check(TWO, [], ("unfair", 0, 1, ((1, 1), ((2, 3), (0,)))), ("sizes",))
        self.check(TWO, [], ("unfair", 0, 1, ((1, 0), ((2, 3), (0, 1)))), ("sizes",))
        self.check(TWO, [], ("unfair", 0, 1, ((1,), ((2, 3),))), ("sizes",))
        self.check(TWO, [], ("unfair", 0, 1, ((1, 1), ((3, 2), (0, 1)))), ("form",))
        self.check(TWO, [], ["fair"], ("form",))
        self.check(((1, 0), (0, 0)), [], ("unfair", 0, 1, board), ("missed", 0, 1))

    def test_several_faults_at_once(self):
        # No board, not missed, other sizes: the first one counts.
        self.check(TWO, [(1, 0)], ("unfair", 0, 1, None), ("form",))
        self.check(TWO, [(1, 0)], ("unfair", 0, 2, ((1,), ((2, 3),))), ("form",))
        self.check(TWO, [(1, 0)], ("unfair", 1, 0, ((1,), ((2, 3),))), ("missed", 1, 0))
        self.check(TWO, [], ("unfair", 0, 0, ((1,), ((2, 3),))), ("missed", 0, 0))

    def test_any_claim(self):
        board = ((1, 1), ((2, 3), (0, 1)))
        claims = [("fair",), ("unfair", 0, 1, board), ("unfair", 1, 0, board), ("unfair", 0, 1, ((1, 1), ((5, 9), (0, 7))))]
        for plan in [[], [(1, 0)], [(0, 1)]]:
            faults = check_claims(self, check_fairness, slow_check_fairness, (TWO, plan), claims)
            if plan != [(1, 0)]:
                self.assertEqual(faults, {None, "form", "missed", "sizes", "order"})
        claims = [judge_fairness(THREE, [SHIFT]), ("unfair", 2, 1, ((1, 1, 1), ((3, 9), (4, 6), (1, 8))))]
        check_claims(self, check_fairness, slow_check_fairness, (THREE, [SHIFT]), claims)
        check_claims(self, check_fairness, slow_check_fairness, (((0,), (1,)), []), [("fair",), ("unfair", 0, 0, ((0,), ((5,),)))])

    def test_result_of_its_function_changed_in_one_item(self):
        word, load, place, board = judge_fairness(THREE, [SHIFT])
        self.check(THREE, [SHIFT], (word, load, place, board), None)
        self.check(THREE, [SHIFT], ("fair", load, place, board), ("form",))
        self.check(THREE, [SHIFT], (word, load, 1, board), ("missed", 0, 1))
        self.check(THREE, [SHIFT], (word, 2, place, board), ("missed", 2, 2))
        self.check(THREE, [SHIFT], (word, 2, 1, board), ("order",))
        self.check(THREE, [SHIFT], (word, load, place, (board[0], board[1][:2] + (board[1][2] + (99,),))), ("sizes",))
        self.check(THREE, [SHIFT], (word, load, place, ((1, 1, 1), ((0, 1), (2, 3), (4, 5)))), ("order",))


class CheckMisplacement(unittest.TestCase):
    """[48]"""

    def check(self, sizes, plan, claim, fault):
        with self.subTest(sizes=sizes, plan=plan, claim=claim):
            self.assertEqual(repr(Watched(self).call(check_misplacement, sizes, plan, claim)), repr(fault))

    def test_example(self):
        self.check(FIVE, [], (1, FIVE_BOARD), ("more", (0, 1), (3, 4)))

    def test_any_board_that_reaches_the_number(self):
        for board in all_boards(TWO):
            number = slow_misplaced(board)
            self.check(TWO, [], (number, board), None if number == 1 else ("more", (0,), (1,)))
            self.check(TWO, [], (number + 1, board), ("number",))
            self.check(TWO, [(1, 0)], (0, board), None)
            self.check(TWO, [(1, 0)], (1, board), ("number",))

    def test_the_first_set_in_the_order_of_tuples(self):
        # (0, 1) comes before (1,), and (0,) before both.
        board = ((1, 2, 0, 0), ((1,), (2, 3), (4,), (5, 6)))
        self.check(((1, 2, 0, 0), (0, 0, 1, 2)), [], (0, board), ("more", (0,), (2, 3)))
        board = ((1, 2, 0, 0), ((1,), (2, 5), (4,), (3, 6)))
        self.check(((1, 2, 0, 0), (0, 0, 1, 2)), [], (1, board), ("more", (0, 1), (2, 3)))
        sizes = ((1, 1, 1, 0, 0), (0, 0, 0, 1, 1))
        self.check(sizes, [], (1, (sizes[0], ((1,), (2,), (4,), (3,), (5,)))), ("more", (0, 1), (3, 4)))
        # The load of 0 visits 3, so it misses too few places.
        self.check(sizes, [(3, 1, 2, 0, 4)], (1, (sizes[0], ((1,), (2,), (4,), (5,), (3,)))), ("more", (1, 2), (3, 4)))

    def test_no_number_above_the_claimed_one(self):
        self.check(FIVE, [], (2, ((1, 1, 2, 0, 0), ((4,), (5,), (2, 3), (0,), (1,)))), None)
        self.check(((1,), (1,)), [], (0, ((1,), ((3, 8),))), None)
        self.check(((0, 0), (0, 0)), [], (0, ((0, 0), ((), ()))), None)

    def test_faults(self):
        board = ((1, 1), ((2, 3), (0, 1)))
        self.check(TWO, [], (1, board), None)
        self.check(TWO, [], (True, board), ("form",))
        self.check(TWO, [], (-1, board), ("form",))
        self.check(TWO, [], (1.0, board), ("form",))
        self.check(TWO, [], [1, board], ("form",))
        self.check(TWO, [], (1, ((1, 1), ((2, 2), (0, 1)))), ("form",))
        self.check(TWO, [], (1, ((1,), ((2, 3),))), ("sizes",))
        self.check(TWO, [], (1, ((0, 1), ((2, 3), (0, 1)))), ("sizes",))
        self.check(TWO, [], (10 ** 30, board), ("number",))
        self.check(TWO, [], (0, ((1, 1), ((0, 3), (1, 2)))), ("more", (0,), (1,)))

    def test_several_faults_at_once(self):
        self.check(FIVE, [], (-1, ((1,), ((2, 3),))), ("form",))
        self.check(FIVE, [], (7, ((1,), ((2, 3),))), ("sizes",))
        self.check(FIVE, [], (0, FIVE_BOARD), ("number",))
        self.check(FIVE, [], (7, FIVE_BOARD), ("number",))

    def test_any_claim(self):
        claims = [(1, ((1, 1), ((2, 3), (0, 1)))), (0, ((1, 1), ((0, 3), (1, 2)))), (0, ((1, 1), ((2, 3), (0, 1))))]
        for plan in [[], [(1, 0)]]:
            faults = check_claims(self, check_misplacement, slow_check_misplacement, (TWO, plan), claims)
            self.assertLessEqual({None, "form", "sizes", "number"}, faults)
        check_claims(self, check_misplacement, slow_check_misplacement, (FIVE, []), [(1, FIVE_BOARD)])
        check_claims(self, check_misplacement, slow_check_misplacement, (((0,), (1,)), []), [(0, ((0,), ((5,),)))])

    def test_all_small_boards(self):
        for sizes in [((2, 1, 0), (0, 1, 2)), ((1, 1, 1), (1, 1, 0)), ((2, 0, 1), (1, 1, 0))]:
            for plan in [[], [SHIFT], [(1, 0, 2)], [(0, 2, 1), SHIFT]]:
                for board in all_boards(sizes):
                    for number in range(4):
                        arguments = (sizes, plan, (number, board))
                        self.assertEqual(check_misplacement(*arguments), slow_check_misplacement(*arguments))

    def test_result_of_its_function_changed_in_one_item(self):
        number, board = worst_misplacement(FIVE, [])
        self.check(FIVE, [], (number, board), None)
        self.check(FIVE, [], (number + 1, board), ("number",))
        self.check(FIVE, [], (number - 1, board), ("number",))
        self.check(FIVE, [], (number, FIVE_BOARD), ("number",))
        self.check(FIVE, [], (number, (board[0], board[1][:4] + (board[1][4] + (99,),))), ("sizes",))

    def test_limits(self):
        sizes = ((12,) * 12, (12,) * 12)
        number, board = worst_misplacement(sizes, [])
        self.assertEqual(number, 72)
        self.check(sizes, [], (number, board), None)
        settled = (sizes[0], tuple(tuple(range(12 * at, 12 * at + 12)) + tuple(range(500 + 12 * at, 512 + 12 * at)) for at in range(12)))
        self.check(sizes, [], (0, settled), ("more", (0,), tuple(range(1, 12))))
        self.check(sizes, [tuple(range(12))] * 40, (0, settled), ("more", (0,), tuple(range(1, 12))))


class AnyValue(unittest.TestCase):
    def test_values_that_are_no_claim(self):
        for value in ANY_VALUES:
            for claim in [value, (value,), [value], ("fair", value), (value, value), (0, value), ("unfair", value, value, value)]:
                self.assertEqual(check_fairness(TWO, [], claim), ("form",))
                self.assertEqual(check_misplacement(TWO, [], claim), ("form",))
