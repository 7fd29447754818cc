"""Values and a second way to play rounds, shared by the tests."""

import copy
import itertools

# Every kind that [2] calls any value. 1j cannot be compared and lists cannot be keys.
ANY_VALUES = [
    None, True, False,
    0, 1, 2, 7, -1, -2, 10 ** 30, 0.0, 1.0, 2.5, -1.0, float("inf"), float("nan"), 1j,
    "", "a", "0", "ab", "01",
    [], [0], [1, 0], [(0,)], [(1, 0)], [(0,), ((),)], [None, "a"],
    (), (0,), (1, 0), (None,), ("a", 1), ((),), ((), ()), ([0], [[]]), ((0,), ()), ((0,), ((),), ()),
    {}, {0: 1}, {"a": [0]}, {(0,): ((),)},
]

NOT_TUPLES = [value for value in ANY_VALUES if not isinstance(value, tuple)]
NOT_LISTS = [value for value in ANY_VALUES if not isinstance(value, list)]
NOT_WHOLE = [value for value in ANY_VALUES if type(value) is not int]
NOT_NATURAL = NOT_WHOLE + [-1, -2]

# Each has only the faults of its own reason.
BAD_BOARDS = [
    (None, ("shape",)),
    ([(0,), ((),)], ("shape",)),
    (((0, -1), ((), ())), ("lot", 1)),
    (((0, 0), ((), [])), ("hand", 1)),
    (((1,), ((),)), ("short", 0)),
    (((0, 0), ((4,), (4,))), ("duplicate", 1)),
]


class Watched:
    """Calls a function twice and checks what [2] says of every call."""

    def __init__(self, case):
        self.case = case

    def call(self, function, *arguments):
        before = copy.deepcopy(arguments)
        first = function(*arguments)
        self.case.assertEqual(repr(arguments), repr(before))
        second = function(*arguments)
        self.case.assertEqual(first, second)
        self.case.assertEqual(repr(first), repr(second))
        if isinstance(first, list):
            self.case.assertIsNot(first, second)
            for argument in arguments:
                self.case.assertIsNot(first, argument)
            first.append("changed")
            self.case.assertEqual(function(*arguments), second)
        return second


def raised(case, error, function, *arguments, **named):
    """Check that the call raises exactly this class, and return the error."""
    before = copy.deepcopy(arguments)
    with case.assertRaises(error) as caught:
        function(*arguments, **named)
    case.assertIs(type(caught.exception), error)
    case.assertEqual(repr(arguments), repr(before))
    return caught.exception


def all_sizes(places, largest):
    """Yield all sizes with lots and bases up to a number."""
    rows = list(itertools.product(range(largest + 1), repeat=places))
    for lots in rows:
        for bases in rows:
            yield lots, bases


def all_owner_lists(sizes):
    """Yield the owner lists that fit the sizes, each once."""
    lots, bases = sizes
    left = [lot + base for lot, base in zip(lots, bases)]

    def grow(owners):
        if len(owners) == sum(lots) + sum(bases):
            yield list(owners)
        for place, many in enumerate(left):
            if owners.count(place) < many:
                yield from grow(owners + [place])

    yield from grow([])


def slow_board(sizes, owners):
    """Deal the cards 0, 1, 2, ... without the package."""
    hands = [tuple(card for card, owner in enumerate(owners) if owner == place)
             for place in range(len(sizes[0]))]
    return sizes[0], tuple(hands)


def slow_round(board, permutation):
    """Play a round card by card, without the package."""
    lots, hands = board
    place_of = {}
    for place, hand in enumerate(hands):
        for rank, card in enumerate(hand):
            place_of[card] = permutation[place] if rank < lots[place] else place
    new_hands = [[] for _ in lots]
    for card in sorted(place_of):
        new_hands[place_of[card]].append(card)
    givers = [permutation.index(place) for place in range(len(lots))]
    return tuple(lots[giver] for giver in givers), tuple(tuple(hand) for hand in new_hands)


def spread_board(places, lot, hand_size, step):
    """Deal cards of up to nine digits so that neighbours lie at different places."""
    hands = [[] for _ in range(places)]
    many = places * hand_size
    for rank in range(many):
        hands[(rank * step + rank // places) % places].append(rank)
    rest = 999999999 // many
    return (lot,) * places, tuple(tuple(rank * rest for rank in hand) for hand in hands)
