"""A match table: its keys, its entries, and which of these match."""

from matchtables.match_kinds import PREFIX, conditions_of, is_allowed, matches
from matchtables.regions import is_in, region_sizes


class Entry:
    """An entry of a table; key_numbers holds two numbers for each key."""

    def __init__(self, number, priority, action, key_numbers):
        self.number = number
        self.priority = priority
        self.action = action
        self.key_numbers = key_numbers


class Table:
    """A table; layout holds match kind and width of each key, entries stand as they were added."""

    def __init__(self, layout):
        self.layout = layout
        self.entries = []
        self.next_number = 1
        self.default_action = 0

    def takes(self, key_numbers):
        """Tell whether an entry of this table may have these key numbers."""
        if len(key_numbers) != 2 * len(self.layout):
            return False
        return all([is_allowed(condition) for condition in conditions_of(self.layout, key_numbers)])

    def has_like(self, priority, key_numbers):
        """Tell whether there is an entry with this priority and these key numbers."""
        return any([entry.priority == priority and entry.key_numbers == key_numbers for entry in self.entries])

    def add_entry(self, priority, action, key_numbers):
        """Add an entry and give its number."""
        number = self.next_number
        self.entries.append(Entry(number, priority, action, key_numbers))
        self.next_number = number + 1
        return number

    def has_number(self, number):
        """Tell whether there is an entry with this number."""
        return any([entry.number == number for entry in self.entries])

    def remove_number(self, number):
        """Remove the entry with this number."""
        self.entries = without(self.entries, number)

    def set_default(self, action):
        """Make this the action where no entry is found."""
        self.default_action = action

    def has_key_value(self, values):
        """Tell whether these are a key value of this table."""
        if len(values) != len(self.layout):
            return False
        return all([value < (1 << key[1]) for value, key in zip(values, self.layout)])

    def ranked(self):
        """Give all entries, the one with the highest precedence ahead."""
        return sorted(
            self.entries,
            key=lambda entry: (-entry.priority, -self.prefix_length(entry), entry.number),
        )

    def prefix_length(self, entry):
        """Give the total length of an entry's prefix keys."""
        conditions = conditions_of(self.layout, entry.key_numbers)
        return sum([second for kind, width, first, second in conditions if kind == PREFIX])

    def is_match(self, entry, values):
        """Tell whether all keys of an entry match a key value."""
        conditions = conditions_of(self.layout, entry.key_numbers)
        return all([matches(condition, value) for condition, value in zip(conditions, values)])

    def matching(self, values):
        """Give the entries that match a key value, the one that is found ahead."""
        return [entry for entry in self.ranked() if self.is_match(entry, values)]

    def action_among(self, matching):
        """Give the action where these entries match, the one that is found ahead."""
        if len(matching) == 0:
            return self.default_action
        return matching[0].action

    def relevant_number(self, matching):
        """Give the number of the entry that is relevant where these entries match, 0 if none is."""
        if self.action_among(matching) == self.action_among(matching[1:]):
            return 0
        return matching[0].number

    def redundant_numbers(self):
        """Give the redundant entries' numbers in the order in which they are determined."""
        matchings = [matching for matching, count, first in self.regions()]
        remaining = self.entries
        redundant = []
        number = self.last_idle(remaining, matchings)
        while number != 0:
            redundant.append(number)
            remaining = without(remaining, number)
            matchings = [without(matching, number) for matching in matchings]
            number = self.last_idle(remaining, matchings)
        return redundant

    def last_idle(self, entries, matchings):
        """Give the number of the entry added last that is nowhere relevant, 0 if there is none."""
        relevant = [self.relevant_number(matching) for matching in matchings]
        # Numbers rise in the order in which entries are added.
        return max([entry.number for entry in entries if entry.number not in relevant], default=0)

    def regions(self):
        """Split all key values by the entries that match them.

        Each region is the list of these entries, the one that is found ahead; how many key
        values it has; and the first of them, with its keys' bits one behind another.
        """
        lists = key_lists(self.entries)
        return self.regions_by(lists, region_sizes(self.layout, lists))

    def regions_by(self, lists, sizes):
        """Give the regions of a split by lists; the key numbers of all entries are among these."""
        placed = [(entry, lists.index(entry.key_numbers)) for entry in self.ranked()]
        regions = []
        for together, size in sizes.items():
            matching = [entry for entry, place in placed if is_in(place, together)]
            regions.append((matching, size[0], size[1]))
        return regions

    def snapshot(self):
        """Give a table that stays as this one is now, whatever becomes of this one."""
        saved = Table(self.layout)
        saved.entries = list(self.entries)
        saved.next_number = self.next_number
        saved.default_action = self.default_action
        return saved


def key_lists(entries):
    """Give the different lists of key numbers of some entries."""
    lists = []
    for entry in entries:
        if entry.key_numbers not in lists:
            lists.append(entry.key_numbers)
    return lists


def without(entries, number):
    """Give the entries but the one with this number."""
    return [entry for entry in entries if entry.number != number]
