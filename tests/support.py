"""Values and a second way to play rounds, shared by the tests."""

import copy
import itertools

from leastpass.errors import InvalidBoard, InvalidPlan, InvalidSizes

# Every kind that [2] calls any value. 1j cannot be compared and lists cannot be keys.
ANY_VALUES = [
    None, True, False,
    0, 1, 2, 7, -1, -2, 10 ** 30, 0.0, 1.0, 2.5, -1.0, float("inf"), float("nan"), 1j,
    "", "a", "0", "ab", "01",
    [], [0], [1, 0], [(0,)], [(1, 0)], [(0,), ((),)], [None, "a"],
    (), (0,), (1, 0), (None,), ("a", 1), ((),), ((), ()), ([0], [[]]), ((0,), ()), ((0,), ((),), ()),
    {}, {0: 1}, {"a": [0]}, {(0,): ((),)},
]

NOT_TUPLES = [value for value in ANY_VALUES if not isinstance(value, tuple)]
NOT_LISTS = [value for value in ANY_VALUES if not isinstance(value, list)]
NOT_WHOLE = [value for value in ANY_VALUES if type(value) is not int]
NOT_NATURAL = NOT_WHOLE + [-1, -2]

# Each has only the faults of its own reason.
BAD_BOARDS = [
    (None, ("shape",)),
    ([(0,), ((),)], ("shape",)),
    (((0, -1), ((), ())), ("lot", 1)),
    (((0, 0), ((), [])), ("hand", 1)),
    (((1,), ((),)), ("short", 0)),
    (((0, 0), ((4,), (4,))), ("duplicate", 1)),
]

BAD_SIZES = [
    (None, ("shape",)),
    ([(0,), (0,)], ("shape",)),
    (((0, 0), (0,)), ("shape",)),
    (((1, True), (1, 1)), ("lot", 1)),
    (((1, -1), (-1, 1)), ("lot", 1)),
    (((1, 1), (1, 1.0)), ("base", 1)),
]

# Each is wrong for two places.
BAD_PLANS = [
    (None, ("plan",)),
    (((1, 0),), ("plan",)),
    ([(0,)], ("round", 0)),
    ([(1, 0), (0, 1, 2)], ("round", 1)),
    ([(1, 0), (1, 0), (True, 0)], ("round", 2)),
]


def lists_in(value):
    """Return every list in the value, the value itself included, once for each place where it stands."""
    found = []
    if isinstance(value, (list, tuple)):
        for item in value:
            found.extend(lists_in(item))
    if isinstance(value, dict):
        for key in value:
            found.extend(lists_in(value[key]))
    if isinstance(value, list):
        found.append(value)
    return found


class Watched:
    """Calls a function several times and checks what [2] says of every call."""

    def __init__(self, case):
        self.case = case

    def call(self, function, *arguments):
        before = copy.deepcopy(arguments)
        first = function(*arguments)
        self.case.assertEqual(repr(arguments), repr(before))
        second = function(*arguments)
        self.case.assertEqual(first, second)
        self.case.assertEqual(repr(first), repr(second))
        kept = repr(second)
        others = {id(item) for item in lists_in(arguments) + lists_in(second)}
        for item in lists_in(first):
            self.case.assertNotIn(id(item), others)
            others.add(id(item))
        for item in lists_in(first):
            item.append("changed")
            item.insert(0, "changed")
        self.case.assertEqual(repr(arguments), repr(before))
        self.case.assertEqual(repr(second), kept)
        self.case.assertEqual(repr(function(*arguments)), kept)
        return second


def raised(case, error, function, *arguments, **named):
    """Check that the call raises exactly this class, and return the error."""
    before = copy.deepcopy(arguments)
    with case.assertRaises(error) as caught:
        function(*arguments, **named)
    case.assertIs(type(caught.exception), error)
    case.assertEqual(repr(arguments), repr(before))
    return caught.exception


def raises_first(case, function, choices):
    """Make every choice of right and wrong arguments, and check that the first wrong one is reported.

    Each choice is the right argument and a list of wrong ones, each with its error and its field.
    """
    rows = [[(right, None)] + wrong for right, wrong in choices]
    for row in itertools.product(*rows):
        expected = [error for _, error in row if error is not None]
        if expected:
            arguments = [argument for argument, _ in row]
            with case.subTest(function=function.__name__, arguments=arguments):
                error, fields = expected[0]
                found = raised(case, error, function, *arguments)
                # repr tells True from 1 and holds for a value that is not equal to itself.
                case.assertEqual(repr(vars(found)), repr(fields))


def all_sizes(places, largest):
    """Yield all sizes with lots and bases up to a number."""
    rows = list(itertools.product(range(largest + 1), repeat=places))
    for lots in rows:
        for bases in rows:
            yield lots, bases


def all_owner_lists(sizes):
    """Yield the owner lists that fit the sizes, each once."""
    lots, bases = sizes
    left = [lot + base for lot, base in zip(lots, bases)]

    def grow(owners):
        if len(owners) == sum(lots) + sum(bases):
            yield list(owners)
        for place, many in enumerate(left):
            if owners.count(place) < many:
                yield from grow(owners + [place])

    yield from grow([])


def slow_board(sizes, owners):
    """Deal the cards 0, 1, 2, ... without the package."""
    hands = [tuple(card for card, owner in enumerate(owners) if owner == place)
             for place in range(len(sizes[0]))]
    return sizes[0], tuple(hands)


def slow_round(board, permutation):
    """Play a round card by card, without the package."""
    lots, hands = board
    place_of = {}
    for place, hand in enumerate(hands):
        for rank, card in enumerate(hand):
            place_of[card] = permutation[place] if rank < lots[place] else place
    new_hands = [[] for _ in lots]
    for card in sorted(place_of):
        new_hands[place_of[card]].append(card)
    givers = [permutation.index(place) for place in range(len(lots))]
    return tuple(lots[giver] for giver in givers), tuple(tuple(hand) for hand in new_hands)


def spread_board(places, lot, hand_size, step):
    """Deal cards of up to nine digits so that neighbours lie at different places."""
    hands = [[] for _ in range(places)]
    many = places * hand_size
    for rank in range(many):
        hands[(rank * step + rank // places) % places].append(rank)
    rest = 999999999 // many
    return (lot,) * places, tuple(tuple(rank * rest for rank in hand) for hand in hands)


def slow_boards(board, plan):
    """Return the boards after each number of rounds, without the package."""
    boards = [board]
    for permutation in plan:
        boards.append(slow_round(boards[-1], permutation))
    return boards


def slow_positions(places, plan):
    """Follow each load on its own, without the package."""
    paths = []
    for place in range(places):
        path = [place]
        for permutation in plan:
            path.append(permutation[path[-1]])
        paths.append(path)
    return [tuple(path[time] for path in paths) for time in range(len(plan) + 1)]


def slow_owners(board, plan):
    """Return, after each round, the heap or the load that each card belongs to.

    A card is followed by its owner, not by its board: every load meets the heap of its new place.
    """
    lots, hands = board
    loads = {place: hand[:lots[place]] for place, hand in enumerate(hands)}
    heaps = {place: hand[lots[place]:] for place, hand in enumerate(hands)}
    owners = []
    for positions in slow_positions(len(lots), plan):
        for load, place in enumerate(positions):
            both = sorted(loads[load] + heaps[place])
            loads[load], heaps[place] = tuple(both[:lots[load]]), tuple(both[lots[load]:])
        now = {card: ("load", load) for load, cards in loads.items() for card in cards}
        now.update({card: ("heap", place) for place, cards in heaps.items() for card in cards})
        owners.append(now)
    return owners


def repetitions_until_known(board, plan):
    """Replay until board and loads are as before; return the two numbers of repetitions."""
    positions = tuple(range(len(board[0])))
    seen = {}
    while (board, positions) not in seen:
        seen[board, positions] = len(seen)
        board = slow_boards(board, plan)[-1]
        ends = slow_positions(len(positions), plan)[-1]
        positions = tuple(ends[place] for place in positions)
    return seen[board, positions], len(seen)


def some_boards_and_plans():
    """Yield boards and plans of up to three places, small enough to replay."""
    boards = [
        ((0,), ((),)), ((0,), ((3,),)), ((2,), ((3, 4, 8),)),
        ((1, 0, 2), ((8, 9), (), (0, 3, 4))),
        ((0, 0, 0), ((5,), (), (2, 3))),
        ((1, 2, 0), ((4, 9), (0, 6, 8), (2, 5))),
        ((1, 1, 1), ((7, 8), (3, 5), (1, 2))),
        ((2, 1, 1), ((6, 7), (4,), (0,))),
        ((1, 1, 1), ((9, 30), (10, 20), (11, 100))),
    ]
    for sizes in all_sizes(2, 1):
        boards.extend(slow_board(sizes, owners) for owners in all_owner_lists(sizes))
    for sizes in [((2, 1), (1, 2)), ((2, 0), (0, 2)), ((1, 2), (2, 0))]:
        boards.extend(slow_board(sizes, owners) for owners in all_owner_lists(sizes))
    for board in boards:
        rounds = list(itertools.permutations(range(len(board[0]))))
        for length in range(3):
            for plan in itertools.product(rounds, repeat=length):
                yield board, list(plan)


def large_boards_and_plans():
    """Yield boards and plans at the limits of [3] and somewhat beyond."""
    for places, lot, size in [(12, 7, 24), (12, 24, 24), (12, 1, 24), (12, 23, 24), (13, 11, 26)]:
        board = spread_board(places, lot, size, 5)
        same = tuple(range(places))
        shift = same[1:] + same[:1]
        # Circles of 3, 4 and 5 places, so that the loads are all back after 60 repetitions only.
        circles = (1, 2, 0, 4, 5, 6, 3, 8, 9, 10, 11, 7) + same[12:]
        yield board, [shift]
        yield board, [circles] + [same] * 39
        yield board, [shift, tuple(reversed(same)), circles] * 13 + [shift]


def slow_visits(places, plan):
    """The definition in [7] and [41], for one pair after the other."""
    positions = slow_positions(places, plan)
    found = []
    for load, place in itertools.permutations(range(places), 2):
        times = [time for time in range(1, len(plan) + 1) if positions[time][load] == place]
        if times:
            found.append((load, place, min(times)))
    return found


def slow_required(sizes):
    """The definition in [9]."""
    lots, bases = sizes
    pairs = itertools.permutations(range(len(lots)), 2)
    return [(load, place) for load, place in pairs if lots[load] and bases[place]]


def slow_missed(sizes, plan):
    """The definition in [9]."""
    visited = [(load, place) for load, place, _ in slow_visits(len(sizes[0]), plan)]
    return [pair for pair in slow_required(sizes) if pair not in visited]


def slow_meetings(sizes, plan):
    """The definition in [9], as tuples (time, load, place) in the order of the meetings."""
    visits = slow_visits(len(sizes[0]), plan)
    return sorted((time, load, place) for load, place, time in visits if (load, place) in slow_required(sizes))


def slow_parts(board):
    """Return the loads and the heaps at all places, without the package."""
    lots, hands = board
    loads = [hand[:lot] for lot, hand in zip(lots, hands)]
    heaps = [hand[lot:] for lot, hand in zip(lots, hands)]
    return loads, heaps


def slow_misplaced(board):
    """Count the low cards in heaps, [8], without the package."""
    low = sorted(card for hand in board[1] for card in hand)[:sum(board[0])]
    return sum(card in low for heap in slow_parts(board)[1] for card in heap)


def slow_sizes(board):
    lots, hands = board
    return lots, tuple(len(hand) - lot for lot, hand in zip(lots, hands))


def all_boards(sizes):
    """Yield the boards of the cards 0, 1, 2, ... with these sizes."""
    for owners in all_owner_lists(sizes):
        yield slow_board(sizes, owners)


def slow_results(sizes, plan):
    """Play every board of the cards 0, 1, 2, ... and collect the sources of each result, in the order of [82]."""
    sources = {}
    for board in all_boards(sizes):
        sources.setdefault(slow_boards(board, plan)[-1], []).append(board)
    return sources


def all_plans(places, longest):
    """Yield the plans of up to that many rounds."""
    rounds = list(itertools.permutations(range(places)))
    for length in range(longest + 1):
        for plan in itertools.product(rounds, repeat=length):
            yield list(plan)


def is_number(value):
    """Tell whether the value is a whole number, [2]."""
    return type(value) is int


def is_place_of(places, value):
    return type(value) is int and 0 <= value < places


def is_plan_of(places, value):
    """The definition in [6], without the package."""
    if type(value) is not list or any(type(item) is not tuple for item in value):
        return False
    if any(type(place) is not int for item in value for place in item):
        return False
    return all(sorted(item) == list(range(places)) for item in value)


def is_board(value):
    """The definition in [5], without the package."""
    if type(value) is not tuple or [type(item) for item in value] != [tuple, tuple]:
        return False
    lots, hands = value
    if len(lots) != len(hands) or not lots or any(type(hand) is not tuple for hand in hands):
        return False
    cards = [card for hand in hands for card in hand]
    if any(type(item) is not int or item < 0 for item in [*lots, *cards]) or len(set(cards)) < len(cards):
        return False
    return all(sorted(hand) == list(hand) and lot <= len(hand) for lot, hand in zip(lots, hands))


REPLACEMENTS = [
    None, True, False, 0, 1, 2, 3, -1, 99, 10 ** 30, 1.0, float("nan"), "", "fair", [], [0], (), (0,), ((0,), ((),)),
    {}, {0: 1}, [(0,)], [[1, 0]],
]


def changed_in_one_item(value):
    """Yield the value with one item, at any depth, replaced, left out, doubled, or turned into another kind."""
    for other in REPLACEMENTS:
        yield other
    if type(value) is int:
        yield from [value + 1, value - 1, float(value), str(value), value == 1]
    if type(value) is str:
        yield from [value + "s", value.upper(), [value], (value,)]
    if type(value) is list or type(value) is tuple:
        kind = type(value)
        yield list(value) if kind is tuple else tuple(value)
        yield dict(enumerate(value))
        yield kind([value])
        for other in [None, 0, 1, (0, 1), (1, 0), []]:
            yield kind([*value, other])
        for at, item in enumerate(value):
            yield kind(value[:at] + value[at + 1:])
            yield kind([*value[:at], item, *value[at:]])
            for changed in changed_in_one_item(item):
                yield kind([*value[:at], changed, *value[at + 1:]])


def check_claims(case, function, slow, arguments, claims):
    """Compare a checker with a slow one for these claims and for each of them changed in one item.

    Return the faults that occurred.
    """
    faults = set()
    for claim in [*claims, *ANY_VALUES]:
        for changed in [claim, *changed_in_one_item(claim)]:
            before = repr((arguments, changed))
            found = function(*arguments, changed)
            expected = slow(*arguments, changed)
            if repr(found) != repr(expected) or repr((arguments, changed)) != before:
                case.fail("%s%r: %r instead of %r" % (function.__name__, (*arguments, changed), found, expected))
            faults.add(found and found[0])
    return faults


def board_choice(board):
    """The right board and wrong ones, for raises_first."""
    return board, [(value, (InvalidBoard, {"reason": reason})) for value, reason in BAD_BOARDS]


def sizes_choice(sizes):
    """The right sizes and wrong ones, for raises_first."""
    return sizes, [(value, (InvalidSizes, {"reason": reason})) for value, reason in BAD_SIZES]


def plan_choice(plan):
    """The right plan for two places and wrong ones, for raises_first."""
    return plan, [(value, (InvalidPlan, {"reason": reason})) for value, reason in BAD_PLANS]
