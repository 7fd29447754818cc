"""Tests for the kinds of values that arguments are made of.

Each function accepts any value, so it asks for the kind of a value before
it compares, sorts or measures it.
"""


def is_whole(value):
    """Tell whether the value is an integer and not a Boolean."""
    return isinstance(value, int) and not isinstance(value, bool)


def is_natural(value):
    """Tell whether the value is a whole number, 0 or more."""
    return is_whole(value) and value >= 0


def is_place(places, value):
    """Tell whether the value is one of that many places."""
    return is_natural(value) and value < places


def is_hand(value):
    """Tell whether the value is a tuple of cards in strictly ascending order."""
    if not isinstance(value, tuple):
        return False
    # A card is 0 or more, so -1 lets every first card pass.
    highest = -1
    for card in value:
        if not is_natural(card) or card <= highest:
            return False
        highest = card
    return True


def is_round(places, value):
    """Tell whether the value is a permutation of that many places."""
    if not isinstance(value, tuple) or len(value) != places:
        return False
    taken = [False] * places
    for place in value:
        if not is_place(places, place) or taken[place]:
            return False
        taken[place] = True
    return True


def is_row(value):
    """Tell whether the value is a tuple of whole numbers, 0 or more, and not empty."""
    if not isinstance(value, tuple) or len(value) == 0:
        return False
    return all([is_natural(item) for item in value])


def is_row_pair(value):
    """Tell whether the value is two tuples of equal length, 1 or more."""
    if not isinstance(value, tuple) or len(value) != 2:
        return False
    first, second = value
    if not isinstance(first, tuple) or not isinstance(second, tuple):
        return False
    return len(first) == len(second) and len(first) > 0


def is_form(value, word, length):
    """Tell whether the value is a tuple of that length that begins with the word."""
    return isinstance(value, tuple) and len(value) == length and value[0] == word
