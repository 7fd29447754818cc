"""Values and a second way to play rounds, shared by the tests."""

import copy
import itertools

# Every kind that [2] calls any value. 1j cannot be compared and lists cannot be keys.
ANY_VALUES = [
    None, True, False,
    0, 1, 2, 7, -1, -2, 10 ** 30, 0.0, 1.0, 2.5, -1.0, float("inf"), float("nan"), 1j,
    "", "a", "0", "ab", "01",
    [], [0], [1, 0], [(0,)], [(1, 0)], [(0,), ((),)], [None, "a"],
    (), (0,), (1, 0), (None,), ("a", 1), ((),), ((), ()), ([0], [[]]), ((0,), ()), ((0,), ((),), ()),
    {}, {0: 1}, {"a": [0]}, {(0,): ((),)},
]

NOT_TUPLES = [value for value in ANY_VALUES if not isinstance(value, tuple)]
NOT_LISTS = [value for value in ANY_VALUES if not isinstance(value, list)]
NOT_WHOLE = [value for value in ANY_VALUES if type(value) is not int]
NOT_NATURAL = NOT_WHOLE + [-1, -2]

# Each has only the faults of its own reason.
BAD_BOARDS = [
    (None, ("shape",)),
    ([(0,), ((),)], ("shape",)),
    (((0, -1), ((), ())), ("lot", 1)),
    (((0, 0), ((), [])), ("hand", 1)),
    (((1,), ((),)), ("short", 0)),
    (((0, 0), ((4,), (4,))), ("duplicate", 1)),
]


class Watched:
    """Calls a function twice and checks what [2] says of every call."""

    def __init__(self, case):
        self.case = case

    def call(self, function, *arguments):
        before = copy.deepcopy(arguments)
        first = function(*arguments)
        self.case.assertEqual(repr(arguments), repr(before))
        second = function(*arguments)
        self.case.assertEqual(first, second)
        self.case.assertEqual(repr(first), repr(second))
        if isinstance(first, list):
            self.case.assertIsNot(first, second)
            for argument in arguments:
                self.case.assertIsNot(first, argument)
            first.append("changed")
            self.case.assertEqual(function(*arguments), second)
        return second


def raised(case, error, function, *arguments, **named):
    """Check that the call raises exactly this class, and return the error."""
    before = copy.deepcopy(arguments)
    with case.assertRaises(error) as caught:
        function(*arguments, **named)
    case.assertIs(type(caught.exception), error)
    case.assertEqual(repr(arguments), repr(before))
    return caught.exception


def raises_first(case, function, choices):
    """Make every choice of right and wrong arguments, and check that the first wrong one is reported.

    Each choice is the right argument and a list of wrong ones, each with its error and its field.
    """
    rows = [[(right, None)] + wrong for right, wrong in choices]
    for row in itertools.product(*rows):
        expected = [error for _, error in row if error is not None]
        if expected:
            arguments = [argument for argument, _ in row]
            with case.subTest(function=function.__name__, arguments=arguments):
                error, fields = expected[0]
                found = raised(case, error, function, *arguments)
                # repr tells True from 1 and holds for a value that is not equal to itself.
                case.assertEqual(repr(vars(found)), repr(fields))


def all_sizes(places, largest):
    """Yield all sizes with lots and bases up to a number."""
    rows = list(itertools.product(range(largest + 1), repeat=places))
    for lots in rows:
        for bases in rows:
            yield lots, bases


def all_owner_lists(sizes):
    """Yield the owner lists that fit the sizes, each once."""
    lots, bases = sizes
    left = [lot + base for lot, base in zip(lots, bases)]

    def grow(owners):
        if len(owners) == sum(lots) + sum(bases):
            yield list(owners)
        for place, many in enumerate(left):
            if owners.count(place) < many:
                yield from grow(owners + [place])

    yield from grow([])


def slow_board(sizes, owners):
    """Deal the cards 0, 1, 2, ... without the package."""
    hands = [tuple(card for card, owner in enumerate(owners) if owner == place)
             for place in range(len(sizes[0]))]
    return sizes[0], tuple(hands)


def slow_round(board, permutation):
    """Play a round card by card, without the package."""
    lots, hands = board
    place_of = {}
    for place, hand in enumerate(hands):
        for rank, card in enumerate(hand):
            place_of[card] = permutation[place] if rank < lots[place] else place
    new_hands = [[] for _ in lots]
    for card in sorted(place_of):
        new_hands[place_of[card]].append(card)
    givers = [permutation.index(place) for place in range(len(lots))]
    return tuple(lots[giver] for giver in givers), tuple(tuple(hand) for hand in new_hands)


def spread_board(places, lot, hand_size, step):
    """Deal cards of up to nine digits so that neighbours lie at different places."""
    hands = [[] for _ in range(places)]
    many = places * hand_size
    for rank in range(many):
        hands[(rank * step + rank // places) % places].append(rank)
    rest = 999999999 // many
    return (lot,) * places, tuple(tuple(rank * rest for rank in hand) for hand in hands)


def slow_boards(board, plan):
    """Return the boards after each number of rounds, without the package."""
    boards = [board]
    for permutation in plan:
        boards.append(slow_round(boards[-1], permutation))
    return boards


def slow_positions(places, plan):
    """Follow each load on its own, without the package."""
    paths = []
    for place in range(places):
        path = [place]
        for permutation in plan:
            path.append(permutation[path[-1]])
        paths.append(path)
    return [tuple(path[time] for path in paths) for time in range(len(plan) + 1)]


def slow_owners(board, plan):
    """Return, after each round, the heap or the load that each card belongs to.

    A card is followed by its owner, not by its board: every load meets the heap of its new place.
    """
    lots, hands = board
    loads = {place: hand[:lots[place]] for place, hand in enumerate(hands)}
    heaps = {place: hand[lots[place]:] for place, hand in enumerate(hands)}
    owners = []
    for positions in slow_positions(len(lots), plan):
        for load, place in enumerate(positions):
            both = sorted(loads[load] + heaps[place])
            loads[load], heaps[place] = tuple(both[:lots[load]]), tuple(both[lots[load]:])
        now = {card: ("load", load) for load, cards in loads.items() for card in cards}
        now.update({card: ("heap", place) for place, cards in heaps.items() for card in cards})
        owners.append(now)
    return owners


def repetitions_until_known(board, plan):
    """Replay until board and loads are as before; return the two numbers of repetitions."""
    positions = tuple(range(len(board[0])))
    seen = {}
    while (board, positions) not in seen:
        seen[board, positions] = len(seen)
        board = slow_boards(board, plan)[-1]
        ends = slow_positions(len(positions), plan)[-1]
        positions = tuple(ends[place] for place in positions)
    return seen[board, positions], len(seen)


def some_boards_and_plans():
    """Yield boards and plans of up to three places, small enough to replay."""
    boards = [
        ((0,), ((),)), ((0,), ((3,),)), ((2,), ((3, 4, 8),)),
        ((1, 0, 2), ((8, 9), (), (0, 3, 4))),
        ((0, 0, 0), ((5,), (), (2, 3))),
        ((1, 2, 0), ((4, 9), (0, 6, 8), (2, 5))),
        ((1, 1, 1), ((7, 8), (3, 5), (1, 2))),
        ((2, 1, 1), ((6, 7), (4,), (0,))),
        ((1, 1, 1), ((9, 30), (10, 20), (11, 100))),
    ]
    for sizes in all_sizes(2, 1):
        boards.extend(slow_board(sizes, owners) for owners in all_owner_lists(sizes))
    for sizes in [((2, 1), (1, 2)), ((2, 0), (0, 2)), ((1, 2), (2, 0))]:
        boards.extend(slow_board(sizes, owners) for owners in all_owner_lists(sizes))
    for board in boards:
        rounds = list(itertools.permutations(range(len(board[0]))))
        for length in range(3):
            for plan in itertools.product(rounds, repeat=length):
                yield board, list(plan)


def large_boards_and_plans():
    """Yield boards and plans at the limits of [3] and somewhat beyond."""
    for places, lot, size in [(12, 7, 24), (12, 24, 24), (12, 1, 24), (12, 23, 24), (13, 11, 26)]:
        board = spread_board(places, lot, size, 5)
        same = tuple(range(places))
        shift = same[1:] + same[:1]
        # Circles of 3, 4 and 5 places, so that the loads are all back after 60 repetitions only.
        circles = (1, 2, 0, 4, 5, 6, 3, 8, 9, 10, 11, 7) + same[12:]
        yield board, [shift]
        yield board, [circles] + [same] * 39
        yield board, [shift, tuple(reversed(same)), circles] * 13 + [shift]
