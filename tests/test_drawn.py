"""Small drawn tables against a plain count over every key value."""

import unittest

from tests.helper import (
    KINDS, MISSES, SHARES, PlainCount, ask, count_in, drawing, drawn_layout, drawn_table, entry, find, gone, last,
    matters, parts_of, shares_answer, table,
)


class Drawn(unittest.TestCase):
    def check(self, draw, kinds):
        total = 8 if len(kinds) < 3 else 9
        model = PlainCount(drawn_layout(draw, kinds, total))
        calls, expected = drawn_table(draw, model, 10)
        model.count()
        numbers = [e[0] for e in model.entries]
        tried = [draw.choice(list(model.found)) for _ in range(4)]
        queries = [SHARES, MISSES] + [matters(number) for number in numbers] + [find(*values) for values in tried]
        expected.append(shares_answer([(number, model.described(model.share_of[number])) for number in numbers]))
        expected.append(model.described(model.missed))
        expected += [model.described(model.relevant_of[number]) for number in numbers]
        expected += [model.found[values] for values in tried]
        answered = ask(*calls, *queries)
        self.assertEqual(answered, expected)
        self.check_sum(model, answered[len(calls)], answered[len(calls) + 1])

    def check_sum(self, model, shares, misses):
        """The shares and the misses add up to 2 to the total width."""
        total = sum(count_in(share) for share in parts_of(shares).values()) + count_in(misses)
        self.assertEqual(total, 1 << sum(width for _, width in model.layout))

    def test_each_match_kind(self):
        for kind in KINDS:
            draw = drawing(kind)
            for keys in (1, 2, 3):
                for at in range(120):
                    with self.subTest(kind=kind, keys=keys, at=at):
                        self.check(draw, [kind] * keys)

    def test_mixed_match_kinds(self):
        draw = drawing(7)
        for keys in (2, 3):
            for at in range(250):
                with self.subTest(keys=keys, at=at):
                    self.check(draw, [draw.choice(KINDS) for _ in range(keys)])


class Found(unittest.TestCase):
    def test_find_at_every_key_value(self):
        draw = drawing(11)
        for _ in range(60):
            model = PlainCount(drawn_layout(draw, [draw.choice(KINDS) for _ in range(draw.randint(1, 3))], 6))
            calls, _ = drawn_table(draw, model, 6)
            model.count()
            asked = list(model.found)
            for at in range(0, len(asked), 20):
                part = asked[at:at + 20]
                answered = ask(*calls, *[find(*values) for values in part])[len(calls):]
                self.assertEqual(answered, [model.found[values] for values in part])


class Unchanged(unittest.TestCase):
    """Errors and queries leave the state as it was."""

    between = (
        table(0), table(), table(4, 8), table(0, 33), entry(0, 1), entry(65536, 1, 0, 0), entry(0, 1, 4294967295, 0),
        entry(65536, 0, 0, 0, 0, 0), entry(0, 1, 4294967295, 0, 0, 0), gone(0), gone(77), find(), find(4294967295),
        find(0), find(0, 0), find(0, 0, 0), SHARES, MISSES, matters(0), matters(1), matters(2), matters(99),
    )

    def test_the_same_calls_with_and_without(self):
        draw = drawing(13)
        for _ in range(150):
            model = PlainCount(drawn_layout(draw, [draw.choice(KINDS) for _ in range(draw.randint(1, 3))], 9))
            calls, _ = drawn_table(draw, model, 6)
            calls += [SHARES, MISSES, matters(1), gone(1), MISSES]
            mixed, kept = [], []
            for call in calls:
                for _ in range(draw.randint(0, 2)):
                    mixed.append(draw.choice(self.between))
                kept.append(len(mixed))
                mixed.append(call)
            answered = ask(*mixed)
            self.assertEqual([answered[at] for at in kept], ask(*calls))

    def test_twice_and_full_change_nothing(self):
        eight = [table(3, 4)] + [entry(5, at, at, at + 1) for at in range(8)]
        after = SHARES, MISSES, find(3), gone(8), entry(0, 9, 0, 15)
        expected = ask(*eight, *after)[9:]
        for refused in (entry(5, 50, 3, 4), entry(4, 60, 3, 4), entry(9, 70, 0, 15)):
            self.assertIn(last(*eight, refused), ([-4], [-5]))
            self.assertEqual(ask(*eight, refused, *after)[10:], expected)


if __name__ == "__main__":
    unittest.main()
