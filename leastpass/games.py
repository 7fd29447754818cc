"""Games that are played step by step and can be taken back."""

from leastpass.boards import require_board, require_plan
from leastpass.errors import InvalidPlan, InvalidRound, NothingToUndo
from leastpass.kinds import is_round
from leastpass.rounds import board_after_plan
from leastpass.sources import board_sent_home


class Game:
    """A board, the rounds that led to it, and the steps that can be taken back."""

    def __init__(self, board, *, plan=()):
        require_board(board)
        if not isinstance(plan, (list, tuple)):
            raise InvalidPlan(("plan",))
        require_plan(len(board[0]), list(plan))
        self._board = board
        self._rounds = []
        # Each step is the board before it, the rounds that it removed, and how many it left.
        self._steps = []
        if plan:
            self._play(list(plan))

    def apply(self, plan):
        """Play a plan as one step and return the new board."""
        require_plan(len(self._board[0]), plan)
        self._play(plan)
        return self._board

    def apply_round(self, permutation):
        """Play a round as one step and return the new board."""
        if not is_round(len(self._board[0]), permutation):
            raise InvalidRound()
        self._play([permutation])
        return self._board

    def send_home(self):
        """Send the loads home as one step, forget the rounds, and return the new board."""
        self._steps.append((self._board, tuple(self._rounds), 0))
        self._board = board_sent_home(self._board, self._rounds)
        self._rounds = []
        return self._board

    def undo(self):
        """Take back the last step."""
        if not self._steps:
            raise NothingToUndo()
        board, removed, left = self._steps.pop()
        self._board = board
        self._rounds = list(removed) + self._rounds[:left]

    def board(self):
        """Return the current board."""
        return self._board

    def rounds(self):
        """Return the rounds that have been played, as a new list."""
        return list(self._rounds)

    def copy(self):
        """Return an independent game with the same state and the same steps to take back."""
        twin = Game(self._board)
        twin._rounds = list(self._rounds)
        twin._steps = list(self._steps)
        return twin

    def _play(self, plan):
        self._steps.append((self._board, (), len(self._rounds)))
        self._board = board_after_plan(self._board, plan)
        self._rounds.extend(plan)

    def __len__(self):
        return len(self._rounds)

    def __eq__(self, other):
        return isinstance(other, Game) and self._board == other._board and self._rounds == other._rounds
