"""The numbers of cards per place up to a threshold."""

from leastpass.boards import require_board, require_plan
from leastpass.errors import InvalidCount, InvalidProfile
from leastpass.kinds import is_row, is_whole


def play_counts(lots, counts, plan):
    """Return the lots and the counts after all rounds of the plan, in order."""
    _require_profile(lots, counts)
    require_plan(len(lots), plan)
    for permutation in plan:
        lots, counts = _profile_after_round(lots, counts, permutation)
    return (lots, counts)


def _require_profile(lots, counts):
    if not is_row(lots):
        raise InvalidProfile(("lots",))
    if not is_row(counts) or len(counts) != len(lots):
        raise InvalidProfile(("counts",))


def _profile_after_round(lots, counts, permutation):
    new_lots = list(lots)
    new_counts = list(counts)
    for giver, taker in enumerate(permutation):
        kept = max(0, counts[taker] - lots[taker])
        passed = min(counts[giver], lots[giver])
        new_lots[taker] = lots[giver]
        new_counts[taker] = kept + passed
    return (tuple(new_lots), tuple(new_counts))


def counts_at_most(board, threshold):
    """Return the numbers of cards, per place, that are not above the threshold."""
    require_board(board)
    if not is_whole(threshold):
        raise InvalidCount()
    _, hands = board
    return tuple([len([card for card in hand if card <= threshold]) for hand in hands])
