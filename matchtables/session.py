"""The operations on a table: each gives back the whole numbers that answer it."""

from matchtables.match_kinds import EXACT, RANGE
from matchtables.regions import region_sizes
from matchtables.table import Table, key_lists

MOST_KEYS = 3
WIDEST_KEY = 32
MOST_ENTRIES = 8
HIGHEST_PRIORITY = 65535


class Session:
    """What one list of calls works on: a table, and the table that was saved last."""

    def __init__(self):
        self.start_table([(EXACT, 8)])

    def start_table(self, layout):
        """Begin a new table, which is also saved."""
        self.table = Table(layout)
        self.saved = self.table.snapshot()

    def new_table(self, numbers):
        """Answer the call table."""
        if not is_layout(numbers):
            return [-1]
        self.start_table(pairs_of(numbers))
        return [sum([width for kind, width in self.table.layout])]

    def new_entry(self, priority, action, key_numbers):
        """Answer the call entry."""
        if priority > HIGHEST_PRIORITY or not self.table.takes(key_numbers):
            return [-1]
        if self.table.has_like(priority, key_numbers):
            return [-4]
        if len(self.table.entries) >= MOST_ENTRIES:
            return [-5]
        return [self.table.add_entry(priority, action, key_numbers)]

    def gone(self, number):
        """Answer the call gone."""
        if not self.table.has_number(number):
            return [-2]
        self.table.remove_number(number)
        return [len(self.table.entries)]

    def other(self, action):
        """Answer the call other."""
        self.table.set_default(action)
        return [0]

    def find(self, values):
        """Answer the call find."""
        if not self.table.has_key_value(values):
            return [-1]
        matching = self.table.matching(values)
        return [found_number(matching), self.table.action_among(matching)]

    def shares(self):
        """Answer the call shares."""
        regions = self.table.regions()
        answer = [len(self.table.entries)]
        for entry in self.table.entries:
            share = [region for region in regions if found_number(region[0]) == entry.number]
            result = share_result(self.table.layout, share)
            answer.append(entry.number)
            answer.append(len(result))
            answer.extend(result)
        return answer

    def misses(self):
        """Answer the call misses."""
        missed = [region for region in self.table.regions() if len(region[0]) == 0]
        return share_result(self.table.layout, missed)

    def matters(self, number):
        """Answer the call matters."""
        if not self.table.has_number(number):
            return [-2]
        relevant = [region for region in self.table.regions() if self.table.relevant_number(region[0]) == number]
        return share_result(self.table.layout, relevant)

    def spare(self):
        """Answer the call spare."""
        redundant = self.table.redundant_numbers()
        return [len(redundant)] + redundant

    def drop(self):
        """Answer the call drop."""
        for number in self.table.redundant_numbers():
            self.table.remove_number(number)
        return [len(self.table.entries)]

    def overlap(self, number, other_number):
        """Answer the call overlap."""
        if not self.table.has_number(number) or not self.table.has_number(other_number):
            return [-2]
        common = [region for region in self.table.regions() if has_both(region[0], number, other_number)]
        return share_result(self.table.layout, common)

    def doing(self, action):
        """Answer the call doing."""
        acting = [region for region in self.table.regions() if self.table.action_among(region[0]) == action]
        return share_result(self.table.layout, acting)

    def keep(self):
        """Answer the call keep."""
        self.saved = self.table.snapshot()
        return [len(self.saved.entries)]

    def differ(self):
        """Answer the call differ."""
        lists = key_lists(self.saved.entries + self.table.entries)
        sizes = region_sizes(self.table.layout, lists)
        before = self.saved.regions_by(lists, sizes)
        now = self.table.regions_by(lists, sizes)
        differing = [
            new for old, new in zip(before, now)
            if self.saved.action_among(old[0]) != self.table.action_among(new[0])
        ]
        return share_result(self.table.layout, differing)

    def listed(self):
        """Answer the call list."""
        answer = [len(self.table.entries)]
        for entry in self.table.entries:
            answer.extend([entry.number, entry.priority, entry.action])
            answer.extend(entry.key_numbers)
        answer.append(self.table.default_action)
        return answer


def pairs_of(numbers):
    """Give a list's numbers two by two; the list has an even length."""
    return [(numbers[at], numbers[at + 1]) for at in range(0, len(numbers), 2)]


def is_layout(numbers):
    """Tell whether a list holds match kinds and widths that a table may have."""
    if len(numbers) % 2 == 1 or len(numbers) < 2 or len(numbers) > 2 * MOST_KEYS:
        return False
    return all([kind <= RANGE and 1 <= width and width <= WIDEST_KEY for kind, width in pairs_of(numbers)])


def found_number(matching):
    """Give the number of the entry that is found where these match, 0 if none does."""
    if len(matching) == 0:
        return 0
    return matching[0].number


def has_both(matching, number, other_number):
    """Tell whether the entries with these two numbers are among those that match."""
    numbers = [entry.number for entry in matching]
    return number in numbers and other_number in numbers


def share_result(layout, regions):
    """Give the share result that describes the key values of these regions."""
    number = sum([count for matching, count, first in regions])
    result = [number // 2 ** 64, number // 2 ** 32 % 2 ** 32, number % 2 ** 32]
    if number != 0:
        result.extend(split_value(layout, min([first for matching, count, first in regions])))
    return result


def split_value(layout, joined):
    """Give a key value as a number for each key; joined has their bits one behind another."""
    values = []
    for kind, width in reversed(layout):
        values.append(joined % (1 << width))
        joined = joined >> width
    return list(reversed(values))
