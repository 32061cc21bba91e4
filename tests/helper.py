"""What the tests share: calls, answers, and two models that count in ways of their own."""

import itertools
import random

from matchtables.analyzer import answers

EXACT, PREFIX, MASK, RANGE = 0, 1, 2, 3
KINDS = (EXACT, PREFIX, MASK, RANGE)
SHARES = [5]
MISSES = [6]
SPARE = [8]
DROP = [9]
KEEP = [12]
DIFFER = [13]
LIST = [14]
TOP = 4294967295


def table(*keys):
    return [0, len(keys), *keys]


def entry(priority, action, *key_numbers):
    return [1, priority, action, len(key_numbers), *key_numbers]


def gone(number):
    return [2, number]


def other(action):
    return [3, action]


def find(*values):
    return [4, len(values), *values]


def matters(number):
    return [7, number]


def overlap(one, two):
    return [10, one, two]


def doing(action):
    return [11, action]


def ask(*calls):
    """Hand the calls in and give each one's answer as a list."""
    flat = answers([number for call in calls for number in call])
    replies, at = [], 0
    while at < len(flat):
        replies.append(flat[at + 1:at + 1 + flat[at]])
        at += 1 + flat[at]
    assert at == len(flat) and len(replies) == len(calls)
    return replies


def last(*calls):
    """Give the answer to the last of the calls."""
    return ask(*calls)[-1]


def result(count, *first):
    """The share result for a count and, where it isn't 0, the first key value."""
    high, low = divmod(count, 1 << 64)
    return [high, *divmod(low, 1 << 32), *first]


def count_in(share_result):
    """The number of key values that a share result tells."""
    return (share_result[0] << 64) + (share_result[1] << 32) + share_result[2]


def parts_of(shares_answer):
    """The share result by entry number, out of an answer to shares."""
    parts, at = {}, 1
    for _ in range(shares_answer[0]):
        number, length = shares_answer[at:at + 2]
        parts[number] = shares_answer[at + 2:at + 2 + length]
        at += 2 + length
    assert at == len(shares_answer)
    return parts


def shares_answer(results):
    """The answer to shares for (number, share result) pairs."""
    answer = [len(results)]
    for number, share in results:
        answer += [number, len(share), *share]
    return answer


WIDEST = {kind: table(*[kind, 32] * 3) for kind in KINDS}
WHOLE = {PREFIX: [0, 0], MASK: [0, 0], RANGE: [0, TOP]}


def bits(number, width):
    return format(number, "b").zfill(width)


def meets(kind, width, first, second, value):
    """Whether a key's two numbers match a value, told bit by bit."""
    if kind == EXACT:
        return value == first
    if kind == PREFIX:
        return bits(value, width)[:second] == bits(first, width)[:second]
    if kind == MASK:
        wanted = zip(bits(value, width), bits(first, width), bits(second, width))
        return all(mine == its for mine, its, counts in wanted if counts == "1")
    return value in range(first, second + 1)


class Model:
    """A table with its entries as plain tuples: number, priority, action, key numbers."""

    def __init__(self, layout):
        self.layout = layout
        self.entries = []
        self.added = 0
        self.default = 0

    def enter(self, priority, action, key_numbers):
        """The answer to a call of entry that has no wrong numbers."""
        if any(e[1] == priority and e[3] == key_numbers for e in self.entries):
            return [-4]
        if len(self.entries) == 8:
            return [-5]
        self.added += 1
        self.entries.append((self.added, priority, action, key_numbers))
        return [self.added]

    def remove(self, number):
        self.entries = [e for e in self.entries if e[0] != number]
        return [len(self.entries)]

    def ranked(self, entries=None):
        def rank(e):
            lengths = [e[3][2 * k + 1] for k, (kind, _) in enumerate(self.layout) if kind == PREFIX]
            return (e[1], sum(lengths), -e[0])
        return sorted(self.entries if entries is None else entries, key=rank, reverse=True)

    def action(self, matching):
        return matching[0][2] if matching else self.default


class PlainCount(Model):
    """Counts by going through every key value; for small tables."""

    def count(self):
        """Fill in what shares, misses and matters must answer, and who is found where."""
        accepted = [(e, [[meets(kind, width, *e[3][2 * k:2 * k + 2], value) for value in range(1 << width)]
                         for k, (kind, width) in enumerate(self.layout)]) for e in self.ranked()]
        self.share_of = {e[0]: [] for e in self.entries}
        self.relevant_of = {e[0]: [] for e in self.entries}
        self.missed = []
        self.found = {}
        for values in itertools.product(*[range(1 << width) for _, width in self.layout]):
            matching = [e for e, keys in accepted if all(key[v] for key, v in zip(keys, values))]
            self.found[values] = [matching[0][0] if matching else 0, self.action(matching)]
            if not matching:
                self.missed.append(values)
                continue
            self.share_of[matching[0][0]].append(values)
            if self.action(matching) != self.action(matching[1:]):
                self.relevant_of[matching[0][0]].append(values)

    @staticmethod
    def described(key_values):
        return result(len(key_values), *(min(key_values) if key_values else ()))


class PlainSession(Model):
    """Answers every call by trying each key value; for small tables.

    A set of key values is a whole number here, with a one at the place of each of them.
    """

    def __init__(self, layout=((EXACT, 8),)):
        self.start(list(layout))

    def start(self, layout):
        super().__init__(layout)
        self.values = list(itertools.product(*[range(1 << width) for _, width in layout]))
        self.all = (1 << len(self.values)) - 1
        self.tried = {}
        self.saved = [], 0
        return [sum(width for _, width in layout)]

    def answer(self, call):
        number, numbers = call[0], call[1:]
        if number == 0:
            return self.table(numbers[1:])
        if number == 1:
            return self.entry(numbers[0], numbers[1], numbers[3:])
        if number == 4:
            return self.find(tuple(numbers[1:]))
        return {2: self.gone, 3: self.other, 5: self.shares, 6: self.misses, 7: self.matters, 8: self.spare,
                9: self.drop, 10: self.overlap, 11: self.doing, 12: self.keep, 13: self.differ,
                14: self.list}[number](*numbers)

    def by_number(self, number):
        return [e for e in self.entries if e[0] == number]

    def matched(self, e):
        """The key values that an entry matches."""
        numbers = tuple(e[3])
        if numbers not in self.tried:
            keys = [[meets(kind, width, *numbers[2 * k:2 * k + 2], value) for value in range(1 << width)]
                    for k, (kind, width) in enumerate(self.layout)]
            self.tried[numbers] = sum(1 << at for at, values in enumerate(self.values)
                                      if all(key[value] for key, value in zip(keys, values)))
        return self.tried[numbers]

    def found(self, entries):
        """The key values by the entry found; in the end those without one."""
        left, found = self.all, []
        for e in self.ranked(entries):
            found.append((e, left & self.matched(e)))
            left &= ~self.matched(e)
        return found + [(None, left)]

    def acting(self, entries, default):
        """The key values by action."""
        acting = {}
        for e, part in self.found(entries):
            action = e[2] if e else default
            acting[action] = acting.get(action, 0) | part
        return acting

    def unlike(self, one, two):
        """The key values at which two tables' actions, each by acting, are not the same."""
        return sum(part & ~two.get(action, 0) for action, part in one.items())

    def relevant(self, entries, number):
        without = [e for e in entries if e[0] != number]
        return self.unlike(self.acting(entries, self.default), self.acting(without, self.default))

    def described(self, part):
        return result(bin(part).count("1"), *(self.values[(part & -part).bit_length() - 1] if part else ()))

    def table(self, keys):
        layout = list(zip(keys[::2], keys[1::2]))
        if len(keys) not in (2, 4, 6) or any(kind not in KINDS or width not in range(1, 33) for kind, width in layout):
            return [-1]
        return self.start(layout)

    def entry(self, priority, action, numbers):
        if priority > 65535 or len(numbers) != 2 * len(self.layout):
            return [-1]
        for k, (kind, width) in enumerate(self.layout):
            first, second = numbers[2 * k:2 * k + 2]
            highest = {EXACT: 0, PREFIX: width, MASK: (1 << width) - 1, RANGE: (1 << width) - 1}[kind]
            if first >= 1 << width or second > highest or kind == RANGE and first > second:
                return [-1]
        return self.enter(priority, action, numbers)

    def gone(self, number):
        return self.remove(number) if self.by_number(number) else [-2]

    def other(self, action):
        self.default = action
        return [0]

    def find(self, values):
        if values not in self.values:
            return [-1]
        place = 1 << self.values.index(values)
        found = [e for e, part in self.found(self.entries) if part & place][0]
        return [found[0], found[2]] if found else [0, self.default]

    def shares(self):
        shares = {e[0]: self.described(part) for e, part in self.found(self.entries)[:-1]}
        return shares_answer(sorted(shares.items()))

    def misses(self):
        return self.described(self.found(self.entries)[-1][1])

    def matters(self, number):
        return self.described(self.relevant(self.entries, number)) if self.by_number(number) else [-2]

    def redundant(self):
        entries, redundant = list(self.entries), []
        while True:
            idle = [e for e in entries if not self.relevant(entries, e[0])]
            if not idle:
                return redundant
            entries.remove(idle[-1])
            redundant.append(idle[-1][0])

    def spare(self):
        return [len(self.redundant()), *self.redundant()]

    def drop(self):
        redundant = self.redundant()
        self.entries = [e for e in self.entries if e[0] not in redundant]
        return [len(self.entries)]

    def overlap(self, one, two):
        both = self.by_number(one) + self.by_number(two)
        return self.described(self.matched(both[0]) & self.matched(both[1])) if len(both) == 2 else [-2]

    def doing(self, action):
        return self.described(self.acting(self.entries, self.default).get(action, 0))

    def keep(self):
        self.saved = list(self.entries), self.default
        return [len(self.entries)]

    def differ(self):
        return self.described(self.unlike(self.acting(*self.saved), self.acting(self.entries, self.default)))

    def list(self):
        rows = [number for e in self.entries for number in (e[0], e[1], e[2], *e[3])]
        return [len(self.entries), *rows, self.default]


class WideCount(Model):
    """Counts by taking intersections away and in again; for tables of any width.

    A box has for each key an interval (RANGE) or a value and a mask (all other kinds). A term
    is a box and the boxes that are taken out of it.
    """

    def box(self, e):
        return tuple(self.side(kind, width, *e[3][2 * k:2 * k + 2]) for k, (kind, width) in enumerate(self.layout))

    @staticmethod
    def side(kind, width, first, second):
        if kind == EXACT:
            return (first, (1 << width) - 1)
        if kind == PREFIX:
            mask = ((1 << second) - 1) << (width - second)
            return (first & mask, mask)
        if kind == MASK:
            return (first & second, second)
        return (first, second)

    def whole(self):
        return tuple((0, (1 << width) - 1 if kind == RANGE else 0) for kind, width in self.layout)

    def meet(self, one, two):
        sides = []
        for (kind, _), (a, b), (c, d) in zip(self.layout, one, two):
            if kind == RANGE:
                side = (max(a, c), min(b, d))
                if side[0] > side[1]:
                    return None
            else:
                if (a ^ c) & b & d:
                    return None
                side = (a | c, b | d)
            sides.append(side)
        return tuple(sides)

    def size(self, box):
        total = 1
        for (kind, width), (a, b) in zip(self.layout, box):
            total *= b - a + 1 if kind == RANGE else 1 << (width - bin(b).count("1"))
        return total

    def left(self, box, without):
        """How many key values of a box are in none of the other boxes."""
        if box is None:
            return 0
        taken = list(dict.fromkeys(common for common in (self.meet(box, other) for other in without) if common))
        if box in taken:
            return 0
        return self.size(box) - sum(self.left(common, taken[:at]) for at, common in enumerate(taken))

    def described(self, terms):
        """The share result of the key values of all terms together, which have none in common."""
        counts = [self.left(*term) for term in terms]
        firsts = [self.first(*term) for term, count in zip(terms, counts) if count]
        return result(sum(counts), *(min(firsts) if firsts else ()))

    def first(self, box, without):
        """The first key value of a term, found bit by bit from the front."""
        values = []
        for k, (kind, width) in enumerate(self.layout):
            value = 0
            for bit in reversed(range(width)):
                high = ((1 << width) - 1) ^ ((1 << bit) - 1)
                side = (value, value + (1 << bit) - 1) if kind == RANGE else (value, high)
                half = self.meet(box, self.whole()[:k] + (side,) + self.whole()[k + 1:])
                if self.left(half, without) == 0:
                    value += 1 << bit
            side = (value, value) if kind == RANGE else (value, (1 << width) - 1)
            box = self.meet(box, self.whole()[:k] + (side,) + self.whole()[k + 1:])
            values.append(value)
        return values

    def share(self, number):
        boxes = [(e[0], self.box(e)) for e in self.ranked()]
        place = [mine for mine, _ in boxes].index(number)
        return self.described([(boxes[place][1], [box for _, box in boxes[:place]])])

    def misses(self):
        return self.described([(self.whole(), [self.box(e) for e in self.entries])])

    def relevance(self, number):
        return self.described(self.relevance_terms(self.entries, number))

    def relevance_terms(self, entries, number):
        ranked = self.ranked(entries)
        place = [e[0] for e in ranked].index(number)
        mine = self.box(ranked[place])
        above = [self.box(e) for e in ranked[:place]]
        terms = []
        for later in ranked[place + 1:]:
            if later[2] != ranked[place][2]:
                terms.append((self.meet(mine, self.box(later)), list(above)))
            above.append(self.box(later))
        if self.default != ranked[place][2]:
            terms.append((mine, above))
        return terms

    def spare(self):
        entries, redundant = list(self.entries), []
        while True:
            idle = [e for e in entries if not any(self.left(*t) for t in self.relevance_terms(entries, e[0]))]
            if not idle:
                return [len(redundant), *redundant]
            entries.remove(idle[-1])
            redundant.append(idle[-1][0])

    def found_boxes(self, entries, default):
        """By precedence: the box of each entry, and in the end that of all key values, with its action."""
        return [(self.box(e), e[2]) for e in self.ranked(entries)] + [(self.whole(), default)]

    def doing(self, action):
        found = self.found_boxes(self.entries, self.default)
        return self.described([(box, [above for above, _ in found[:at]])
                               for at, (box, its) in enumerate(found) if its == action])

    def overlap(self, one, two):
        boxes = {e[0]: self.box(e) for e in self.entries}
        return self.described([(self.meet(boxes[one], boxes[two]), [])])

    def differing(self, saved, default):
        """What differ must answer where these entries and this default action are saved."""
        terms = []
        old, new = self.found_boxes(saved, default), self.found_boxes(self.entries, self.default)
        for i, (old_box, old_action) in enumerate(old):
            for k, (new_box, new_action) in enumerate(new):
                if old_action != new_action:
                    above = [box for box, _ in old[:i] + new[:k]]
                    terms.append((self.meet(old_box, new_box), above))
        return self.described(terms)


def drawn_numbers(draw, kind, width):
    """Two numbers that an entry may have for a key."""
    first, second = draw.getrandbits(width), draw.getrandbits(width)
    if kind == EXACT:
        return [first, 0]
    if kind == PREFIX:
        return [first, draw.randint(0, width)]
    if kind == MASK:
        return [first, second & draw.getrandbits(width) if draw.random() < 0.6 else second]
    return sorted([first, second])


def drawn_wide_numbers(draw, layout):
    """An entry's key numbers for keys of 32 bits, some of them open, so that entries overlap."""
    numbers = []
    for kind, width in layout:
        is_open = kind in WHOLE and draw.random() < 0.3
        numbers += WHOLE[kind] if is_open else drawn_numbers(draw, kind, width)
        if kind == PREFIX and draw.random() < 0.7:
            numbers[-1] = draw.randint(0, 3)
        if kind == MASK and draw.random() < 0.7:
            numbers[-1] = 1 << draw.randrange(32) | 1 << draw.randrange(32)
        if kind == EXACT:
            numbers[-2] = draw.randrange(4)
    return numbers


def drawn_table(draw, model, most_entries):
    """Fill a model's table with drawn calls; give these calls and what they must answer."""
    calls = [table(*itertools.chain(*model.layout))]
    expected = [[sum(width for _, width in model.layout)]]
    if draw.random() < 0.5:
        model.default = draw.randrange(3)
        calls.append(other(model.default))
        expected.append([0])
    for _ in range(draw.randint(0, most_entries)):
        numbers = [n for kind, width in model.layout for n in drawn_numbers(draw, kind, width)]
        priority, action = draw.randrange(3), draw.randrange(3)
        calls.append(entry(priority, action, *numbers))
        expected.append(model.enter(priority, action, numbers))
        if model.entries and draw.random() < 0.15:
            number = draw.choice(model.entries)[0]
            calls.append(gone(number))
            expected.append(model.remove(number))
    return calls, expected


def drawn_lists(draw, layout, most=10):
    """Different lists of key numbers, at most as many as both tables may have at a call of differ."""
    lists = []
    for _ in range(most):
        numbers = [n for kind, width in layout for n in drawn_numbers(draw, kind, width)]
        if numbers not in lists:
            lists.append(numbers)
    return lists


def drawn_entry(draw, lists, actions=3):
    """A call of entry with one of these lists; few priorities and actions, so that many are redundant."""
    return entry(draw.randrange(2), draw.randrange(actions), *draw.choice(lists))


def drawn_layout(draw, kinds, total):
    """A layout of these kinds with a total width of at most `total`."""
    return [(kind, draw.randint(1, total // len(kinds))) for kind in kinds]


def drawing(seed):
    """Draws that come out the same at each run."""
    return random.Random(seed)
