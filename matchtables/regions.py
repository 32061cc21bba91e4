"""Splits all key values by which entries match them.

A set of entries is one whole number here: it has a one at the place of each entry that is in
it. A key value is one whole number too, its keys' bits one behind another, so that the order
of these numbers is the lexicographic order of the key values.

The keys are read in steps. A step reads some bits more, and tells for each way in which these
can come out which entries still match, how many values come out so, and the least of them.
"""

from matchtables.match_kinds import MASK, conditions_of, interval, mask_matches


def region_sizes(layout, entries_numbers):
    """Give, by the set of entries that match, how many key values there are and the first.

    layout holds match kind and width of each key, entries_numbers each entry's key numbers.
    """
    entries_conditions = [conditions_of(layout, key_numbers) for key_numbers in entries_numbers]
    sizes = {(1 << len(entries_numbers)) - 1: (1, 0)}
    for at, key in enumerate(layout):
        conditions = [of_entry[at] for of_entry in entries_conditions]
        for step in key_steps(key[0], key[1], conditions):
            sizes = after_step(sizes, step)
    return sizes


def after_step(sizes, step):
    """Give the sizes with the step's bits read too."""
    width, outcomes = step
    longer = {}
    for matching, size in sizes.items():
        count, first = size
        for allowed, times, least in outcomes:
            add_size(longer, matching & allowed, count * times, (first << width) + least)
    return longer


def add_size(sizes, matching, count, first):
    """Add some key values, with the first of them, to those of a set of entries."""
    if matching in sizes:
        old_count, old_first = sizes[matching]
        sizes[matching] = (old_count + count, min(old_first, first))
    else:
        sizes[matching] = (count, first)


def key_steps(kind, width, conditions):
    """Give the steps that read one key, on which each entry has a condition."""
    if kind == MASK:
        # Scattered masks cut a key into far too many intervals, but each bit has two outcomes.
        return [bit_step(width - 1 - at, conditions) for at in range(width)]
    return [interval_step(width, [interval(condition) for condition in conditions])]


def bit_step(bit, conditions):
    """Give the step that reads one bit of a key with masks."""
    wanted = [((value >> bit) & 1, (mask >> bit) & 1) for kind, width, value, mask in conditions]
    outcomes = []
    for digit in (0, 1):
        allowed = entry_set([mask_matches(value, mask, digit) for value, mask in wanted])
        outcomes.append((allowed, 1, digit))
    return (1, outcomes)


def interval_step(width, intervals):
    """Give the step that reads a whole key on which each entry matches an interval."""
    cuts = [0, 1 << width]
    for low, high in intervals:
        cuts.append(low)
        cuts.append(high + 1)
    cuts = sorted(set(cuts))
    outcomes = []
    for start, end in zip(cuts, cuts[1:]):
        # No interval begins or ends within a piece: what matches its start matches all of it.
        allowed = entry_set([low <= start and start <= high for low, high in intervals])
        outcomes.append((allowed, end - start, start))
    return (width, outcomes)


def entry_set(chosen):
    """Give the set of the entries at whose place the list holds True."""
    together = 0
    for place, is_chosen in enumerate(chosen):
        if is_chosen:
            together = together + (1 << place)
    return together


def is_in(place, together):
    """Tell whether the entry at a place is in a set of entries."""
    return (together >> place) & 1 == 1
