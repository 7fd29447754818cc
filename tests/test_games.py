import itertools
import random
import unittest

from leastpass.counting import count_sources, source_index
from leastpass.errors import InvalidBoard, InvalidPlan, InvalidRound, NothingToUndo
from leastpass.fairness import judge_fairness, missed_visits, settling_time
from leastpass.games import Game
from leastpass.repairs import repair_plan
from leastpass.signatures import compare_plans, plan_signature
from leastpass.sources import find_source, return_time
from leastpass.tracking import final_locations, locate_card, play_repeated, track_card
from leastpass.visits import first_visits, load_positions
from tests.support import (
    ANY_VALUES, BAD_BOARDS, BAD_PLANS, NOT_LISTS, NOT_TUPLES, Watched, board_choice, raised, raises_first,
    slow_boards, slow_parts, slow_positions, slow_sizes, spread_board,
)

BOARD = ((1, 1), ((5, 7), (1, 3)))
THREE = ((1, 2, 0), ((4, 9), (0, 6, 8), (2, 5)))
SHIFT = (1, 2, 0)
BACK = (2, 0, 1)


class SlowGame:
    """A game that keeps every state it was in."""

    def __init__(self, board, plan=()):
        self.states = [(board, [])]
        if plan:
            self.apply(plan)

    def apply(self, plan):
        board, rounds = self.states[-1]
        self.states.append((slow_boards(board, plan)[-1], rounds + list(plan)))

    def send_home(self):
        board, rounds = self.states[-1]
        loads, heaps = slow_parts(board)
        ends = slow_positions(len(loads), rounds)[-1]
        hands = tuple(tuple(sorted(heaps[place] + loads[ends[place]])) for place in range(len(loads)))
        self.states.append(((tuple(board[0][end] for end in ends), hands), []))

    def undo(self):
        self.states.pop()


class GameCase(unittest.TestCase):
    def check_state(self, game, board, rounds):
        self.assertEqual(repr(game.board()), repr(board))
        self.assertEqual(repr(game.rounds()), repr(rounds))
        self.assertEqual(len(game), len(rounds))


class NewGame(GameCase):
    """[90]"""

    def test_without_a_plan(self):
        for game in [Game(BOARD), Game(BOARD, plan=()), Game(BOARD, plan=[]), Game(board=BOARD)]:
            self.check_state(game, BOARD, [])
            raised(self, NothingToUndo, game.undo)

    def test_with_a_plan(self):
        plan = [(1, 0), (0, 1), (1, 0)]
        for given in [plan, tuple(plan)]:
            game = Game(BOARD, plan=given)
            self.check_state(game, slow_boards(BOARD, plan)[-1], plan)
            self.assertIsNone(game.undo())
            self.check_state(game, BOARD, [])
            raised(self, NothingToUndo, game.undo)

    def test_one_place(self):
        game = Game(((1,), ((3, 4),)), plan=((0,),))
        self.check_state(game, ((1,), ((3, 4),)), [(0,)])
        game.undo()
        self.check_state(game, ((1,), ((3, 4),)), [])

    def test_the_plan_is_not_kept(self):
        plan = [(1, 0)]
        game = Game(BOARD, plan=plan)
        plan.append((0, 1))
        plan[0] = None
        self.check_state(game, slow_boards(BOARD, [(1, 0)])[-1], [(1, 0)])
        self.assertEqual(plan, [None, (0, 1)])

    def test_the_plan_is_passed_by_name(self):
        with self.assertRaises(TypeError):
            Game(BOARD, [(1, 0)])

    def test_wrong_board(self):
        for value, reason in BAD_BOARDS + [(value, ("shape",)) for value in ANY_VALUES]:
            for plan in [(), [], None, [(0,)]]:
                self.assertEqual(vars(raised(self, InvalidBoard, Game, value, plan=plan)), {"reason": reason})

    def test_wrong_plan(self):
        for value in ANY_VALUES:
            if not isinstance(value, (list, tuple)):
                self.assertEqual(vars(raised(self, InvalidPlan, Game, BOARD, plan=value)), {"reason": ("plan",)})
        for plan, reason in BAD_PLANS[2:]:
            self.assertEqual(vars(raised(self, InvalidPlan, Game, BOARD, plan=plan)), {"reason": reason})
            self.assertEqual(vars(raised(self, InvalidPlan, Game, BOARD, plan=tuple(plan))), {"reason": reason})
        for plan in [(1, 0), [1, 0], ((1, 0), None), ((1, 0), [1, 0]), "10", {(1, 0): 1}]:
            reason = ("plan",) if not isinstance(plan, (list, tuple)) else ("round", 0 if plan[0] == 1 else 1)
            self.assertEqual(vars(raised(self, InvalidPlan, Game, BOARD, plan=plan)), {"reason": reason})

    def test_order_of_the_errors(self):
        raises_first(self, lambda board, plan: Game(board, plan=plan), [board_choice(BOARD), (((1, 0),), [
            (None, (InvalidPlan, {"reason": ("plan",)})), (((1, 1),), (InvalidPlan, {"reason": ("round", 0)})),
        ])])


class Methods(GameCase):
    """[91] to [94]"""

    def test_example(self):
        game = Game(((1, 1), ((5, 7), (1, 3))))
        first = game.apply_round((1, 0))
        second = game.send_home()
        self.assertEqual(
            [first, second, game.rounds(), len(game)],
            [((1, 1), ((1, 7), (3, 5))), ((1, 1), ((3, 7), (1, 5))), [], 0],
        )

    def test_apply(self):
        game = Game(THREE)
        plan = [SHIFT, (1, 0, 2)]
        boards = slow_boards(THREE, plan + plan)
        self.assertEqual(repr(game.apply(plan)), repr(boards[2]))
        self.assertEqual(repr(game.apply(plan=plan)), repr(boards[4]))
        self.check_state(game, boards[4], plan + plan)
        plan.append(None)
        self.check_state(game, boards[4], [SHIFT, (1, 0, 2)] * 2)
        game.undo()
        self.check_state(game, boards[2], [SHIFT, (1, 0, 2)])
        game.undo()
        self.check_state(game, THREE, [])

    def test_a_plan_without_rounds_is_a_step(self):
        game = Game(BOARD)
        self.assertEqual(game.apply([]), BOARD)
        self.check_state(game, BOARD, [])
        game.apply_round((1, 0))
        state = game.board()
        self.assertEqual(game.apply([]), state)
        game.undo()
        self.check_state(game, state, [(1, 0)])
        game.undo()
        self.check_state(game, BOARD, [])
        game.undo()
        raised(self, NothingToUndo, game.undo)

    def test_apply_round(self):
        game = Game(THREE)
        boards = slow_boards(THREE, [SHIFT, BACK, (0, 1, 2)])
        for at, permutation in enumerate([SHIFT, BACK, (0, 1, 2)]):
            self.assertEqual(repr(game.apply_round(permutation=permutation)), repr(boards[at + 1]))
        for left in [2, 1, 0]:
            game.undo()
            self.check_state(game, boards[left], [SHIFT, BACK, (0, 1, 2)][:left])

    def test_send_home(self):
        game = Game(THREE, plan=[SHIFT])
        slow = SlowGame(THREE, [SHIFT])
        slow.send_home()
        self.assertEqual(repr(game.send_home()), repr(slow.states[-1][0]))
        self.check_state(game, slow.states[-1][0], [])
        self.assertEqual(game.apply([SHIFT]), slow_boards(THREE, [SHIFT])[-1])
        game.undo()
        self.assertIsNone(game.undo())
        self.check_state(game, *slow.states[1])

    def test_send_home_without_rounds_is_a_step(self):
        game = Game(BOARD)
        self.assertEqual(game.send_home(), BOARD)
        self.assertEqual(game.send_home(), BOARD)
        game.undo()
        game.undo()
        raised(self, NothingToUndo, game.undo)
        self.check_state(game, BOARD, [])

    def test_only_the_rounds_since_the_last_time_are_sent_home(self):
        game = Game(THREE, plan=[SHIFT])
        board = game.send_home()
        game.apply_round(SHIFT)
        self.assertEqual(game.send_home(), board)

    def test_returned_rounds_may_be_changed(self):
        game = Game(BOARD, plan=[(1, 0)])
        rounds = game.rounds()
        rounds.append("changed")
        rounds[0] = None
        self.check_state(game, slow_boards(BOARD, [(1, 0)])[-1], [(1, 0)])
        self.assertIsNot(game.rounds(), game.rounds())
        game.undo()
        self.assertEqual(rounds, [None, "changed"])
        again = game.rounds()
        again.append((0, 1))
        self.check_state(game, BOARD, [])

    def test_the_rounds_of_a_game_as_its_own_plan(self):
        game = Game(BOARD, plan=[(1, 0)])
        game.apply(game.rounds())
        game.apply(game.rounds())
        self.check_state(game, slow_boards(BOARD, [(1, 0)] * 4)[-1], [(1, 0)] * 4)

    def test_wrong_plans_and_rounds_change_nothing(self):
        game = Game(BOARD, plan=[(1, 0)])
        game.send_home()
        game.apply_round((1, 0))
        game.apply([])
        twin = game.copy()
        for plan, reason in BAD_PLANS + [(value, ("plan",)) for value in NOT_LISTS] + [([(1, 0), (1, 1)], ("round", 1))]:
            self.assertEqual(vars(raised(self, InvalidPlan, game.apply, plan)), {"reason": reason})
            self.assertEqual(game, twin)
        values = [value for value in ANY_VALUES if value != (1, 0)] + NOT_TUPLES
        for permutation in values + [(1, 1), (0,), (0, 1, 2), [1, 0], (True, 0), (1, False), (0, 1.0), (-1, 0), (2, 0)]:
            self.assertEqual(vars(raised(self, InvalidRound, game.apply_round, permutation)), {})
            self.assertEqual(game, twin)
        for plan in [(), ((1, 0),)]:
            self.assertEqual(vars(raised(self, InvalidPlan, game.apply, plan)), {"reason": ("plan",)})
        for _ in range(4):
            self.assertEqual((game.board(), game.rounds()), (twin.board(), twin.rounds()))
            game.undo()
            twin.undo()
        self.assertEqual(vars(raised(self, NothingToUndo, game.undo)), {})
        self.check_state(game, BOARD, [])
        raised(self, NothingToUndo, game.undo)

    def test_a_boolean_after_the_equal_number(self):
        for _ in range(2):
            game = Game(BOARD)
            game.apply_round((1, 0))
            raised(self, InvalidRound, game.apply_round, (True, 0))
            raised(self, InvalidRound, game.apply_round, (1, False))
            game.apply([(1, 0)])
            raised(self, InvalidPlan, game.apply, [(1, False)])
            raised(self, InvalidPlan, Game, BOARD, plan=((True, 0),))
            raised(self, InvalidBoard, Game, ((True, 1), ((5, 7), (1, 3))))
            raised(self, InvalidBoard, Game, ((1, 1), ((5, 7), (True, 3))))


class Copies(GameCase):
    """[94]"""

    def game(self):
        game = Game(THREE, plan=[SHIFT])
        game.apply_round(BACK)
        game.send_home()
        game.apply([SHIFT, SHIFT])
        return game

    def states(self, game):
        """Take back all steps and return the states on the way."""
        found = [(game.board(), game.rounds())]
        while True:
            try:
                game.undo()
            except NothingToUndo:
                return found
            found.append((game.board(), game.rounds()))

    def test_same_state_and_same_steps(self):
        game = self.game()
        twin = game.copy()
        self.assertIsNot(twin, game)
        self.assertIs(type(twin), Game)
        self.assertEqual(twin, game)
        expected = self.states(self.game())
        self.assertEqual(len(expected), 5)
        self.assertEqual(self.states(twin), expected)
        self.check_state(game, *expected[0])
        self.assertEqual(self.states(game), expected)

    def test_a_copy_is_independent(self):
        expected = self.states(self.game())
        for change in [
            lambda game: game.apply_round(SHIFT), lambda game: game.apply([BACK]), lambda game: game.send_home(), lambda game: game.undo(),
            lambda game: [game.undo(), game.undo(), game.apply_round((0, 2, 1)), game.undo(), game.undo()],
            lambda game: [game.undo(), game.undo(), game.apply([(0, 2, 1)] * 3)],
        ]:
            game = self.game()
            twin = game.copy()
            change(game)
            self.assertEqual(self.states(twin.copy()), expected)
            self.assertEqual(self.states(twin), expected)
            game = self.game()
            twin = game.copy()
            change(twin)
            self.assertEqual(self.states(game), expected)

    def test_a_new_game(self):
        twin = Game(BOARD).copy()
        self.check_state(twin, BOARD, [])
        raised(self, NothingToUndo, twin.undo)


class Equality(GameCase):
    """[95]"""

    def check_equal(self, one, other, equal):
        self.assertIs(one == other, equal)
        self.assertIs(other == one, equal)
        self.assertIs(one != other, not equal)
        self.assertIs(other != one, not equal)

    def test_boards_and_rounds_count(self):
        game = Game(BOARD, plan=[(1, 0)])
        self.check_equal(game, game, True)
        self.check_equal(game, Game(BOARD, plan=((1, 0),)), True)
        self.check_equal(game, Game(BOARD), False)
        self.check_equal(game, Game(game.board()), False)
        self.check_equal(Game(BOARD), Game(((1, 1), ((5, 8), (1, 3)))), False)
        self.check_equal(Game(BOARD), Game(((1, 0), ((5, 7), (1, 3)))), False)
        self.check_equal(Game(BOARD, plan=[(0, 1)]), Game(BOARD), False)
        self.check_equal(Game(BOARD, plan=[(0, 1)]), Game(BOARD, plan=[(0, 1)] * 2), False)

    def test_steps_do_not_count(self):
        one = Game(BOARD, plan=[(1, 0), (0, 1)])
        other = Game(BOARD)
        other.apply_round((1, 0))
        other.apply([])
        other.apply_round((0, 1))
        self.check_equal(one, other, True)
        other.undo()
        self.check_equal(one, other, False)
        other.send_home()
        other.undo()
        other.apply_round((0, 1))
        self.check_equal(one, other, True)

    def test_other_classes(self):
        class Other:
            def board(self):
                return BOARD

            def rounds(self):
                return []

        for other in [*ANY_VALUES, BOARD, (BOARD, []), [BOARD, []], Other(), object(), Game]:
            self.check_equal(Game(BOARD), other, False)

    def test_an_object_that_is_equal_to_everything(self):
        class Everything:
            def __eq__(self, other):
                return True

        self.assertIs(Game(BOARD) == Everything(), False)
        self.assertIs(Game(BOARD) != Everything(), True)


class Replay(GameCase):
    """Games of many steps against a game that keeps every state."""

    def play(self, board, numbers, steps):
        places = len(board[0])
        game, slow = Game(board), SlowGame(board)
        for _ in range(steps):
            kind = numbers.choice(["apply", "apply_round", "apply_round", "send_home", "undo", "copy"])
            plan = [tuple(numbers.sample(range(places), places)) for _ in range(numbers.randrange(4))]
            if kind == "apply":
                slow.apply(plan)
                self.assertEqual(game.apply(plan), slow.states[-1][0])
            elif kind == "apply_round" and plan:
                slow.apply(plan[:1])
                self.assertEqual(game.apply_round(plan[0]), slow.states[-1][0])
            elif kind == "send_home":
                slow.send_home()
                self.assertEqual(game.send_home(), slow.states[-1][0])
            elif kind == "undo" and len(slow.states) > 1:
                slow.undo()
                self.assertIsNone(game.undo())
            elif kind == "copy":
                game = game.copy()
            self.check_state(game, *slow.states[-1])
        while len(slow.states) > 1:
            slow.undo()
            game.undo()
            self.check_state(game, *slow.states[-1])
        raised(self, NothingToUndo, game.undo)

    def test_many_steps(self):
        numbers = random.Random(5)
        for board in [((0,), ((),)), ((1,), ((3, 4),)), BOARD, THREE, ((0, 2, 1), ((9,), (3, 8, 10), (1, 2, 4, 5)))]:
            for _ in range(20):
                self.play(board, numbers, 40)
        self.play(spread_board(12, 7, 24, 5), numbers, 40)

    def test_all_short_games(self):
        steps = [("apply", []), ("apply", [(1, 0)]), ("apply", [(1, 0), (0, 1)]), ("send_home", None), ("undo", None)]
        for kinds in itertools.product(steps, repeat=4):
            game, slow = Game(BOARD, plan=[(1, 0)]), SlowGame(BOARD, [(1, 0)])
            for kind, plan in kinds:
                arguments = [] if plan is None else [plan]
                if kind != "undo" or len(slow.states) > 1:
                    getattr(slow, kind)(*arguments)
                    getattr(game, kind)(*arguments)
                else:
                    raised(self, NothingToUndo, game.undo)
                self.check_state(game, *slow.states[-1])


class LongGames(GameCase):
    """[2] and [90]: the list of rounds may be longer than the plans of [3]."""

    def test_the_rounds_are_a_plan_for_every_function(self):
        board = ((1, 1, 1), ((9, 10), (4, 6), (1, 2)))
        game = Game(board)
        for at in range(130):
            game.apply_round([SHIFT, BACK, (1, 0, 2)][at * at % 3])
        rounds, result = game.rounds(), game.board()
        self.assertEqual((len(rounds), len(game)), (130, 130))
        self.assertEqual(slow_boards(board, rounds)[-1], result)
        sizes = slow_sizes(board)
        self.assertEqual(len(load_positions(3, rounds)), 131)
        self.assertEqual(len(track_card(board, rounds, 9)), 131)
        self.assertEqual(play_repeated(board, rounds, 1), result)
        self.assertEqual(locate_card(board, rounds, 9, 1), track_card(board, rounds, 9)[-1])
        self.assertEqual([item[0] for item in final_locations(board, rounds)], [1, 2, 4, 6, 9, 10])
        self.assertEqual(len(first_visits(3, rounds)), 6)
        self.assertEqual(missed_visits(sizes, rounds), [])
        self.assertEqual(judge_fairness(sizes, rounds), ("fair",))
        self.assertEqual(settling_time(sizes, rounds)[0], "time")
        self.assertEqual(repair_plan(sizes, rounds), ([], None))
        self.assertEqual(find_source(result, rounds)[0], "source")
        self.assertGreater(return_time(result, rounds), 0)
        self.assertEqual(plan_signature(sizes, rounds)[0], list(enumerate(load_positions(3, rounds)[-1])))
        self.assertEqual(compare_plans(sizes, rounds, rounds), ("same",))
        self.assertEqual(compare_plans(sizes, rounds, rounds + [SHIFT])[0], "different")
        self.assertLess(source_index(result, rounds, board), count_sources(result, rounds))
        home = game.send_home()
        self.assertEqual(slow_boards(home, rounds)[-1], result)
        game.undo()
        self.check_state(game, result, rounds)
        self.assertEqual(Game(board, plan=rounds), game)

    def test_thousands_of_rounds_at_the_limits(self):
        board = spread_board(12, 7, 24, 5)
        shift = tuple(range(1, 12)) + (0,)
        game = Game(board)
        for _ in range(50):
            game.apply([shift, tuple(reversed(range(12)))] * 20)
        for _ in range(200):
            game.apply_round(shift)
        self.assertEqual(len(game), 2200)
        for _ in range(200):
            game.undo()
        self.assertEqual(game.rounds(), [shift, tuple(reversed(range(12)))] * 1000)
        self.assertEqual(find_source(game.board(), game.rounds())[0], "source")
        last = game.board()
        home = game.send_home()
        self.assertEqual(game.apply([shift, tuple(reversed(range(12)))] * 1000), last)
        game.undo()
        self.check_state(game, home, [])


class Conventions(GameCase):
    def test_arguments_are_unchanged_and_results_are_repeated(self):
        def played(board, plan, more):
            game = Game(board, plan=plan)
            return [game.apply(more), game.rounds(), game.send_home(), game.rounds(), game.rounds()]

        Watched(self).call(played, THREE, [SHIFT], [BACK, SHIFT])
        Watched(self).call(played, THREE, (), [])
