"""How many boards or rounds lead to a board, and how many boards a plan leaves or makes."""

from math import gcd

from leastpass.boards import (
    card_owners, heap_at, load_at, require_board, require_board_and_plan, require_sizes, require_sizes_and_plan,
    sizes_of,
)
from leastpass.errors import InvalidCard, InvalidPlace, InvalidRound
from leastpass.kinds import is_natural, is_place, is_round
from leastpass.lattice import (
    Flow, all_counts, deals_of, number_of_paths, one_more, path_at, path_index, paths_to_end, require_index,
    require_small,
)
from leastpass.rounds import board_after_plan
from leastpass.sources import board_sent_home


def count_sources(board, plan):
    """Return the number of boards that the plan turns into this board."""
    require_board_and_plan(board, plan)
    home = _small_home(board, plan)
    return number_of_paths(_source_paths(board, plan, home), _hand_sizes(home))


def source_at(board, plan, index):
    """Return the board of that index among those that the plan turns into this board."""
    require_board_and_plan(board, plan)
    home = _small_home(board, plan)
    paths = _source_paths(board, plan, home)
    require_index(index, number_of_paths(paths, _hand_sizes(home)))
    return _dealt_like(home, path_at(paths, _hand_sizes(home), index))


def source_index(board, plan, source):
    """Return the index of a board among those that the plan turns into this board, or None."""
    require_board_and_plan(board, plan)
    require_board(source)
    home = _small_home(board, plan)
    if len(source[0]) != len(board[0]) or board_after_plan(source, plan) != board:
        return None
    return path_index(_source_paths(board, plan, home), _hand_sizes(home), card_owners(source))


def count_deals(sizes):
    """Return the number of boards of the cards 0, 1, 2, ... with these sizes."""
    require_sizes(sizes)
    return deals_of(_small_hands(sizes))


def count_unsettled(sizes, plan):
    """Return how many of these boards are not settled after the plan."""
    require_sizes_and_plan(sizes, plan)
    hands = _small_hands(sizes)
    flow = Flow(sizes, plan)
    settled = 0
    for counts in all_counts(hands):
        # The low cards are as many as the cards in loads; afterwards no heap may have one.
        if sum(counts) == sum(sizes[0]) and sum(flow.parts_after(counts)[1]) == 0:
            settled += deals_of(counts) * deals_of(_rest(hands, counts))
    return deals_of(hands) - settled


def count_reachable(sizes, plan):
    """Return how many different boards the plan makes of these boards."""
    require_sizes_and_plan(sizes, plan)
    hands = _small_hands(sizes)
    flow = Flow(sizes, plan)
    # A result with its loads sent home is a board on which the plan only moves the loads.
    still = [counts for counts in all_counts(hands) if flow.parts_after(counts) == flow.parts(counts)]
    return number_of_paths(paths_to_end(still), hands)


def card_probability(sizes, plan, card, start, end):
    """Return the share of boards, of those with the card at the start, that take it to the end."""
    require_sizes_and_plan(sizes, plan)
    places = len(sizes[0])
    if not is_natural(card) or card >= sum(sizes[0]) + sum(sizes[1]):
        raise InvalidCard(card)
    if not is_place(places, start):
        raise InvalidPlace(start)
    if not is_place(places, end):
        raise InvalidPlace(end)
    hands = _small_hands(sizes)
    flow = Flow(sizes, plan)
    total = 0
    favourable = 0
    for counts in all_counts(hands):
        if sum(counts) == card and counts[start] < hands[start]:
            dealt = one_more(counts, start)
            boards = deals_of(counts) * deals_of(_rest(hands, dealt))
            total += boards
            if flow.counts_after(dealt)[end] > flow.counts_after(counts)[end]:
                favourable += boards
    return _in_lowest_terms(favourable, total)


def count_last_rounds(board):
    """Return the number of rounds that turn some board into this board."""
    require_board(board)
    return _count_choices(_choices(board))


def last_round_at(board, index):
    """Return the round of that index among those that turn some board into this board."""
    require_board(board)
    choices = _choices(board)
    require_index(index, _count_choices(choices))
    permutation = []
    while choices:
        rests = [_without(choices[1:], taker) for taker in choices[0]]
        at = 0
        while index >= _count_choices(rests[at]):
            index -= _count_choices(rests[at])
            at += 1
        permutation.append(choices[0][at])
        choices = rests[at]
    return tuple(permutation)


def last_round_index(board, permutation):
    """Return the index of a round among those that turn some board into this board, or None."""
    require_board(board)
    if not is_round(len(board[0]), permutation):
        raise InvalidRound()
    choices = _choices(board)
    index = 0
    for taker in permutation:
        if taker not in choices[0]:
            return None
        lower = [other for other in choices[0] if other < taker]
        index += sum([_count_choices(_without(choices[1:], other)) for other in lower])
        choices = _without(choices[1:], taker)
    return index


def _small_home(board, plan):
    home = board_sent_home(board, plan)
    require_small(_hand_sizes(home))
    return home


def _small_hands(sizes):
    hands = tuple([lot + base for lot, base in zip(sizes[0], sizes[1])])
    require_small(hands)
    return hands


def _hand_sizes(board):
    return tuple([len(hand) for hand in board[1]])


def _rest(hands, counts):
    return [size - count for size, count in zip(hands, counts)]


def _source_paths(board, plan, home):
    """Return the paths of the boards that the plan turns into this board."""
    flow = Flow(sizes_of(home), plan)
    hand_sizes = _hand_sizes(home)
    # Up to every card, the plan has to bring as many cards to each place as the board has there.
    wanted = [(0,) * len(hand_sizes)]
    for owner in card_owners(board):
        wanted.append(one_more(wanted[-1], owner))
    fitting = [counts for counts in all_counts(hand_sizes) if flow.counts_after(counts) == wanted[sum(counts)]]
    return paths_to_end(fitting)


def _dealt_like(board, owners):
    """Deal the cards of a board to these owners, with the lots of the board."""
    lots, hands = board
    cards = sorted([card for hand in hands for card in hand])
    dealt = [[] for _ in lots]
    for card, owner in zip(cards, owners):
        dealt[owner].append(card)
    return (lots, tuple([tuple(hand) for hand in dealt]))


def _in_lowest_terms(numerator, denominator):
    if denominator == 0:
        return (0, 1)
    factor = gcd(numerator, denominator)
    return (numerator // factor, denominator // factor)


def _choices(board):
    """Return for each place the places that it may have passed to in the last round."""
    places = range(len(board[0]))
    return [[taker for taker in places if _may_follow(board, giver, taker)] for giver in places]


def _may_follow(board, giver, taker):
    load = load_at(board, taker)
    heap = heap_at(board, giver)
    return len(load) == 0 or len(heap) == 0 or load[-1] < heap[0]


def _without(choices, taker):
    return [[other for other in takers if other != taker] for takers in choices]


def _count_choices(choices):
    """Return in how many ways each place can pass to one of its choices, all to different ones.

    Of the choices of two places, those of one contain those of the other, as
    only the lowest card of a heap counts. So the place with the fewest choices
    takes any of them, and each further place finds one choice less.
    """
    count = 1
    for taken, number in enumerate(sorted([len(takers) for takers in choices])):
        count *= max(0, number - taken)
    return count
