"""A match table: its keys, its entries, and which of these match."""

from matchtables.match_kinds import PREFIX, conditions_of, is_allowed, matches
from matchtables.regions import is_in, region_sizes


class Entry:
    """An entry of a table; key_numbers holds two numbers for each key."""

    def __init__(self, number, priority, action, key_numbers):
        self.number = number
        self.priority = priority
        self.action = action
        self.key_numbers = key_numbers


class Table:
    """A table; layout holds match kind and width of each key, entries stand as they were added."""

    def __init__(self, layout):
        self.layout = layout
        self.entries = []
        self.next_number = 1
        self.default_action = 0

    def takes(self, key_numbers):
        """Tell whether an entry of this table may have these key numbers."""
        if len(key_numbers) != 2 * len(self.layout):
            return False
        return all([is_allowed(condition) for condition in conditions_of(self.layout, key_numbers)])

    def has_like(self, priority, key_numbers):
        """Tell whether there is an entry with this priority and these key numbers."""
        return any([entry.priority == priority and entry.key_numbers == key_numbers for entry in self.entries])

    def add_entry(self, priority, action, key_numbers):
        """Add an entry and give its number."""
        number = self.next_number
        self.entries.append(Entry(number, priority, action, key_numbers))
        self.next_number = number + 1
        return number

    def has_number(self, number):
        """Tell whether there is an entry with this number."""
        return any([entry.number == number for entry in self.entries])

    def remove_number(self, number):
        """Remove the entry with this number."""
        self.entries = [entry for entry in self.entries if entry.number != number]

    def set_default(self, action):
        """Make this the action where no entry is found."""
        self.default_action = action

    def has_key_value(self, values):
        """Tell whether these are a key value of this table."""
        if len(values) != len(self.layout):
            return False
        return all([value < (1 << key[1]) for value, key in zip(values, self.layout)])

    def ranked(self):
        """Give all entries, the one with the highest precedence ahead."""
        return sorted(
            self.entries,
            key=lambda entry: (-entry.priority, -self.prefix_length(entry), entry.number),
        )

    def prefix_length(self, entry):
        """Give the total length of an entry's prefix keys."""
        conditions = conditions_of(self.layout, entry.key_numbers)
        return sum([second for kind, width, first, second in conditions if kind == PREFIX])

    def is_match(self, entry, values):
        """Tell whether all keys of an entry match a key value."""
        conditions = conditions_of(self.layout, entry.key_numbers)
        return all([matches(condition, value) for condition, value in zip(conditions, values)])

    def matching(self, values):
        """Give the entries that match a key value, the one that is found ahead."""
        return [entry for entry in self.ranked() if self.is_match(entry, values)]

    def action_among(self, matching):
        """Give the action where these entries match, the one that is found ahead."""
        if len(matching) == 0:
            return self.default_action
        return matching[0].action

    def regions(self):
        """Split all key values by the entries that match them.

        Each region is the list of these entries, the one that is found ahead; how many key
        values it has; and the first of them, with its keys' bits one behind another.
        """
        ranked = self.ranked()
        sizes = region_sizes(self.layout, [entry.key_numbers for entry in ranked])
        split = []
        for together, size in sizes.items():
            matching = [entry for place, entry in enumerate(ranked) if is_in(place, together)]
            split.append((matching, size[0], size[1]))
        return split
