"""Lists of all fifteen calls on small tables against a plain count over every key value."""

import unittest

from tests.helper import (
    DIFFER, DROP, KEEP, KINDS, LIST, MISSES, SHARES, SPARE, PlainSession, ask, doing, drawing, drawn_entry,
    drawn_layout, drawn_lists, entry, find, gone, matters, other, overlap, table,
)

REFUSED = (
    table(), table(0), table(4, 8), table(0, 33), table(0, 4, 0, 0), table(*[0, 8] * 5), entry(0, 1),
    entry(65536, 1, 0, 0), entry(65536, 1, *[0] * 4), entry(65536, 1, *[0] * 6), entry(0, 1, *[4294967295] * 2),
    entry(0, 1, *[4294967295] * 4), entry(0, 1, *[4294967295] * 6), gone(0), gone(77), find(), find(4294967295),
    find(*[4294967295] * 3), matters(0), matters(99), overlap(0, 0), overlap(0, 1), overlap(1, 99),
)


def drawn_query(draw, session):
    """A call that changes nothing."""
    low = max(0, session.added - 8)
    numbers = [draw.randint(low, session.added + 1) for _ in range(2)]
    return draw.choice([
        SHARES, MISSES, SPARE, DIFFER, DIFFER, DIFFER, LIST, find(*draw.choice(session.values)), matters(numbers[0]),
        overlap(*numbers), overlap(numbers[0], numbers[0]), doing(draw.randrange(4)), draw.choice(REFUSED),
    ])


def drawn_change(draw, session, lists):
    """A call that may change a table of these lists of key numbers."""
    return draw.choice(
        [drawn_entry(draw, lists)] * 6 + [gone(draw.randint(1, session.added + 1))] * 2
        + [other(draw.randrange(3)), DROP, KEEP])


def new_table(draw, kinds=KINDS, keys=(1, 2, 3)):
    """A drawn call of table, and the lists of key numbers for it."""
    layout = drawn_layout(draw, [draw.choice(kinds) for _ in range(draw.choice(keys))], 7)
    return table(*[number for key in layout for number in key]), drawn_lists(draw, layout)


class All(unittest.TestCase):
    def test_up_to_40_calls(self):
        for seed, kinds in enumerate([*zip(KINDS), KINDS]):
            draw = drawing(50 + seed)
            for at in range(50):
                with self.subTest(kinds=kinds, at=at):
                    self.check(draw, kinds)

    def check(self, draw, kinds):
        session, calls, expected = PlainSession(), [], []
        lists = drawn_lists(draw, session.layout)
        count = draw.randint(10, 40)
        while len(calls) < count:
            if draw.random() < (0.7 if not calls else 0.03):
                call, lists = new_table(draw, kinds)
            elif draw.random() < 0.5:
                call = drawn_change(draw, session, lists)
            else:
                call = drawn_query(draw, session)
            calls.append(call)
            expected.append(session.answer(call))
        self.assertLessEqual(sum(map(len, calls)), 560)
        for call, answered, right in zip(calls, ask(*calls), expected):
            self.assertEqual(answered, right, call)


class Spare(unittest.TestCase):
    def check(self, draw, kinds):
        session = PlainSession(drawn_layout(draw, kinds, 8 if len(kinds) < 3 else 9))
        lists = drawn_lists(draw, session.layout, 8)
        calls = [table(*[number for key in session.layout for number in key]), other(draw.randrange(2))]
        expected = [[sum(width for _, width in session.layout)], session.answer(calls[-1])]
        for _ in range(draw.randint(3, 12)):
            calls.append(drawn_entry(draw, lists, actions=2) if draw.random() < 0.85 else gone(session.added))
            expected.append(session.answer(calls[-1]))
        self.compare(session, calls, expected)

    def compare(self, session, calls, expected):
        """Spare, then drop: the count, the actions, what remains, and that nothing remaining is spare."""
        before = ask(*calls, *[find(*values) for values in session.values[:20]])[len(calls):]
        ending = SPARE, KEEP, DROP, SPARE, LIST, DIFFER, doing(0), doing(1), SHARES
        expected = expected + [session.answer(call) for call in ending]
        self.assertEqual(ask(*calls, *ending), expected)
        self.assertEqual(expected[-6:-3], [[0], session.list(), [0, 0, 0]])
        after = ask(*calls, DROP, *[find(*values) for values in session.values[:20]])[len(calls) + 1:]
        self.assertEqual([action for _, action in after], [action for _, action in before])

    def test_each_match_kind(self):
        for kind in KINDS:
            draw = drawing(60 + kind)
            for keys in (1, 2, 3):
                for at in range(100):
                    with self.subTest(kind=kind, keys=keys, at=at):
                        self.check(draw, [kind] * keys)

    def test_mixed_match_kinds(self):
        draw = drawing(64)
        for at in range(200):
            with self.subTest(at=at):
                self.check(draw, [draw.choice(KINDS) for _ in range(draw.choice((2, 3)))])


class Differ(unittest.TestCase):
    def check(self, draw, kinds):
        """Two tables of up to 8 entries, of ten lists together; asked again behind each further change."""
        session = PlainSession(drawn_layout(draw, kinds, 9))
        lists = drawn_lists(draw, session.layout)
        calls = [table(*[number for key in session.layout for number in key])]
        calls += [drawn_entry(draw, lists) for _ in range(draw.randint(0, 10))] + [KEEP]
        calls += [gone(number) for number in range(1, 9) if draw.random() < 0.4]
        calls += [drawn_entry(draw, lists) for _ in range(draw.randint(0, 8))] + [DIFFER]
        calls += [other(draw.randrange(3)), DIFFER, DROP, DIFFER, KEEP, DIFFER]
        self.assertEqual(ask(*calls), [session.answer(call) for call in calls])

    def test_each_match_kind(self):
        for kind in KINDS:
            draw = drawing(70 + kind)
            for keys in (1, 2, 3):
                for at in range(60):
                    with self.subTest(kind=kind, keys=keys, at=at):
                        self.check(draw, [kind] * keys)

    def test_mixed_match_kinds(self):
        draw = drawing(74)
        for at in range(150):
            with self.subTest(at=at):
                self.check(draw, [draw.choice(KINDS) for _ in range(draw.choice((2, 3)))])


class Unchanged(unittest.TestCase):
    """Errors and queries change neither table."""

    def test_the_same_calls_with_and_without(self):
        draw = drawing(80)
        for _ in range(200):
            session = PlainSession()
            call, lists = new_table(draw)
            calls = [call]
            session.answer(call)
            while len(calls) < 18:
                calls.append(drawn_change(draw, session, lists))
                session.answer(calls[-1])
            calls += [LIST, DIFFER, SHARES, SPARE]
            mixed, kept = [], []
            for at, call in enumerate(calls):
                while at > 0 and draw.random() < 0.45 and len(mixed) - at < 18:
                    mixed.append(drawn_query(draw, session))
                kept.append(len(mixed))
                mixed.append(call)
            answered = ask(*mixed)
            self.assertEqual([answered[at] for at in kept], ask(*calls))

    def test_each_of_them_alone(self):
        before = (table(3, 3, 2, 3), other(2), entry(1, 1, 0, 4, 0, 1), KEEP, entry(0, 1, 2, 4, 5, 5), gone(1),
                  entry(1, 0, 3, 6, 1, 3), entry(0, 2, 3, 6, 1, 1))
        after = LIST, DIFFER, SHARES, SPARE, MISSES, entry(0, 0, 7, 7, 7, 7), DROP, LIST, DIFFER
        queries = (SHARES, MISSES, SPARE, DIFFER, LIST, find(0, 0), matters(2), overlap(2, 3), doing(1))
        for call in (*REFUSED, *queries, entry(1, 9, 3, 6, 1, 3), find(8, 0), gone(1), overlap(1, 2), matters(1)):
            with self.subTest(call=call):
                answered = ask(*before, call, *after)
                self.assertEqual(answered[:8] + answered[9:], ask(*before, *after))
                self.assertEqual(answered[8][0] < 0, call not in queries)


if __name__ == "__main__":
    unittest.main()
