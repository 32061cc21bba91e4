"""Splits all key values by which lists of key numbers match them.

A set of lists is one whole number here: it has a one at the place of each list that is in it.
A key value is one whole number too, its keys' bits one behind another, so that the order of
these numbers is the lexicographic order of the key values.

A split tells, by the set of lists that match, how many key values there are and the least of
them. It is put together out of splits by some of the bits alone, whose values have zeros at all
other bits: as they have no bit in common, the counts are multiplied and the least values added.
"""

from matchtables.match_kinds import MASK, conditions_of, interval, mask_matches


def region_sizes(layout, lists):
    """Give, by the set of lists that match, how many key values there are and the first.

    layout holds match kind and width of each key, lists two numbers for each key.
    """
    sizes = {set_of([True for key_numbers in lists]): (1, 0)}
    for part in parts_of(layout, lists):
        sizes = joined_sizes(sizes, part)
    return sizes


def joined_sizes(sizes, part):
    """Give the split by the bits of both; they have no bit in common."""
    joined = {}
    for matching, size in sizes.items():
        for allowed, part_size in part.items():
            add_size(joined, matching & allowed, size[0] * part_size[0], size[1] + part_size[1])
    return joined


def add_size(sizes, matching, count, first):
    """Add some key values, with the first of them, to those of a set of lists."""
    old = sizes.get(matching)
    if old is None:
        sizes[matching] = (count, first)
    elif old[1] <= first:
        sizes[matching] = (old[0] + count, old[1])
    else:
        sizes[matching] = (old[0] + count, first)


def parts_of(layout, lists):
    """Give splits by some bits each, which have all bits together."""
    of_lists = [conditions_of(layout, key_numbers) for key_numbers in lists]
    parts = []
    alike = {}
    place = sum([width for kind, width in layout])
    for at, key in enumerate(layout):
        kind, width = key
        place = place - width
        conditions = [of_list[at] for of_list in of_lists]
        if kind == MASK:
            # Scattered masks cut a key into far too many intervals, but each bit has two digits.
            add_mask_bits(alike, width, place, conditions)
        else:
            parts.append(interval_part(width, place, [interval(condition) for condition in conditions]))
    for allowed, bits in alike.items():
        parts.append(bits_part(allowed, bits))
    return parts


def add_mask_bits(alike, width, place, conditions):
    """Add a key's bits, the lowest of which has this place, to those that match alike.

    alike holds lists of places, by the sets that match a bit of 0 and a bit of 1.
    """
    for bit in range(width):
        wanted = [((value >> bit) & 1, (mask >> bit) & 1) for kind, key_width, value, mask in conditions]
        allowed = (digit_set(wanted, 0), digit_set(wanted, 1))
        alike.setdefault(allowed, []).append(place + bit)


def digit_set(wanted, digit):
    """Give the set of lists that match a bit's digit, by the bit of each list's value and mask."""
    return set_of([mask_matches(value, mask, digit) for value, mask in wanted])


def bits_part(allowed, bits):
    """Give the split by bits that match alike, by the sets that match a bit of 0 and a bit of 1."""
    with_zero, with_one = allowed
    ones = [1 << bit for bit in bits]
    part = {}
    add_size(part, with_zero, 1, 0)
    add_size(part, with_one, 1, sum(ones))
    if len(bits) > 1:
        mixed = (1 << len(bits)) - 2
        add_size(part, with_zero & with_one, mixed, min(ones))
    return part


def interval_part(width, place, intervals):
    """Give the split by a key on which each list matches an interval; its lowest bit has this place."""
    cuts = [0, 1 << width]
    for low, high in intervals:
        cuts.append(low)
        cuts.append(high + 1)
    cuts = sorted(set(cuts))
    part = {}
    for start, end in zip(cuts, cuts[1:]):
        # No interval begins or ends within a piece: what matches its start matches all of it.
        allowed = set_of([low <= start and start <= high for low, high in intervals])
        add_size(part, allowed, end - start, start << place)
    return part


def set_of(chosen):
    """Give the set of those at whose place the list holds True."""
    together = 0
    for place, is_chosen in enumerate(chosen):
        if is_chosen:
            together = together + (1 << place)
    return together


def is_in(place, together):
    """Tell whether what stands at a place is in a set."""
    return (together >> place) & 1 == 1
