"""The four match kinds of a key: the numbers they take and the values they match.

A condition is what an entry asks of one key: the key's match kind and width, and the entry's
two numbers for it.
"""

EXACT = 0
PREFIX = 1
MASK = 2
RANGE = 3


def conditions_of(layout, key_numbers):
    """Give an entry's condition on each key.

    layout holds match kind and width of each key, key_numbers two numbers for each.
    """
    return [
        (key[0], key[1], key_numbers[2 * at], key_numbers[2 * at + 1])
        for at, key in enumerate(layout)
    ]


def is_allowed(condition):
    """Tell whether an entry may have this condition."""
    kind, width, first, second = condition
    limit = 1 << width
    if first >= limit:
        return False
    if kind == EXACT:
        return second == 0
    if kind == PREFIX:
        return second <= width
    if kind == MASK:
        return second < limit
    return first <= second and second < limit


def interval(condition):
    """Give the lowest and the highest value that meet a condition of any kind but MASK."""
    kind, width, first, second = condition
    if kind == EXACT:
        return (first, first)
    if kind == PREFIX:
        open_bits = width - second
        low = (first >> open_bits) << open_bits
        return (low, low + (1 << open_bits) - 1)
    return (first, second)


def mask_matches(value, mask, tried):
    """Tell whether the tried value has the bits of value wherever mask has ones."""
    return ((tried ^ value) & mask) == 0


def matches(condition, tried):
    """Tell whether the tried value meets a condition."""
    kind, width, first, second = condition
    if kind == MASK:
        return mask_matches(first, second, tried)
    low, high = interval(condition)
    return low <= tried and tried <= high
