"""Tables of up to 96 bits, whose key values can't be gone through one by one."""

import unittest

from tests.helper import (
    EXACT, KINDS, MASK, MISSES, PREFIX, RANGE, SHARES, TOP, WHOLE, WIDEST, WideCount, ask, count_in, drawing,
    drawn_table, drawn_wide_numbers, entry, find, last, matters, other, parts_of, result, shares_answer, table,
)


class ByHand(unittest.TestCase):
    def test_no_entries(self):
        for kind in KINDS:
            self.assertEqual(last(WIDEST[kind], MISSES), [4294967296, 0, 0, 0, 0, 0])
        self.assertEqual(last(table(0, 32, 0, 32), MISSES), [1, 0, 0, 0, 0])
        self.assertEqual(last(table(0, 32), MISSES), [0, 1, 0, 0])
        self.assertEqual(last(table(3, 31, 0, 2), MISSES), [0, 2, 0, 0, 0])

    def test_one_entry_for_all(self):
        for kind, numbers in WHOLE.items():
            calls = WIDEST[kind], entry(0, 1, *numbers * 3), SHARES, MISSES, matters(1)
            everything = result(1 << 96, 0, 0, 0)
            self.assertEqual(ask(*calls)[2:], [shares_answer([(1, everything)]), [0, 0, 0], everything])

    def test_the_three_numbers(self):
        calls = WIDEST[EXACT], entry(0, 1, 0, 0, 0, 0, 0, 0), MISSES
        self.assertEqual(last(*calls), [TOP, TOP, TOP, 0, 0, 1])
        calls = table(3, 32, 3, 32), entry(0, 1, 0, 0, 0, 0), MISSES
        self.assertEqual(last(*calls), [0, TOP, TOP, 0, 1])

    def test_eight_exact_entries(self):
        calls = [WIDEST[EXACT]] + [entry(at, 1, 0, 0, 0, 0, at, 0) for at in range(8)]
        self.assertEqual(last(*calls, MISSES), result((1 << 96) - 8, 0, 0, 8))
        self.assertEqual(last(*calls, SHARES), shares_answer([(at + 1, result(1, 0, 0, at)) for at in range(8)]))

    def test_longer_and_longer_prefixes(self):
        # The entry of length L leaves to the next, of length L + 12, all that begins with its bits.
        lengths = [12 * at for at in range(8)]
        calls = [WIDEST[PREFIX]]
        for length in lengths:
            parts = [max(0, min(32, length - 32 * k)) for k in range(3)]
            calls.append(entry(4, length, TOP, parts[0], TOP, parts[1], TOP, parts[2]))
        expected = []
        for number, length in enumerate(lengths, start=1):
            share = 1 << (96 - length)
            first = ((1 << length) - 1) << (96 - length)
            if number < 8:
                share -= 1 << (84 - length)
            expected.append((number, result(share, first >> 64, first >> 32 & TOP, first & TOP)))
        self.assertEqual(last(*calls, SHARES), shares_answer(expected))
        self.assertEqual(last(*calls, MISSES), [0, 0, 0])
        for number, share in expected[1:]:
            self.assertEqual(last(*calls, matters(number)), share)
        self.assertEqual(last(*calls, matters(1)), [0, 0, 0])
        self.assertEqual(last(*calls, other(1), matters(1)), expected[0][1])

    def test_one_scattered_bit_each(self):
        scattered = [95, 70, 64, 63, 41, 30, 13, 0]
        calls = [WIDEST[MASK]]
        expected = []
        for at, bit in enumerate(scattered):
            keys = [(1 << bit) >> shift & TOP for shift in (64, 32, 0)]
            calls.append(entry(100 - at, at + 1, keys[0], keys[0], keys[1], keys[1], keys[2], keys[2]))
            expected.append((at + 1, result(1 << (95 - at), *keys)))
        self.assertEqual(last(*calls, SHARES), shares_answer(expected))
        self.assertEqual(last(*calls, MISSES), result(1 << 88, 0, 0, 0))
        for number, share in expected:
            self.assertEqual(last(*calls, matters(number)), share)

    def test_masks_of_every_other_bit(self):
        odd, even = 0xAAAAAAAA, 0x55555555
        calls = WIDEST[MASK], entry(1, 1, *[TOP, odd] * 3), entry(0, 2, *[TOP, even] * 3)
        both, one = 1, 1 << 48
        self.assertEqual(last(*calls, SHARES),
                         shares_answer([(1, result(one, odd, odd, odd)), (2, result(one - both, even, even, even))]))
        self.assertEqual(last(*calls, MISSES), result((1 << 96) - 2 * one + both, 0, 0, 0))

    def test_ranges_within_ranges(self):
        calls = [WIDEST[RANGE]]
        for at in range(8):
            calls.append(entry(at, at, *[at << 16, TOP - (at << 16)] * 3))
        sizes = [((1 << 32) - (at << 17)) ** 3 for at in range(8)] + [0]
        expected = [(at + 1, result(sizes[at] - sizes[at + 1], *[at << 16] * 3)) for at in range(8)]
        self.assertEqual(last(*calls, SHARES), shares_answer(expected))
        self.assertEqual(last(*calls, MISSES), [0, 0, 0])

    def test_the_first_key_value_at_the_very_end(self):
        calls = [WIDEST[RANGE]]
        calls.append(entry(1, 1, 0, TOP - 1, 0, TOP, 0, TOP))
        calls.append(entry(1, 1, TOP, TOP, 0, TOP - 1, 0, TOP))
        calls.append(entry(1, 1, TOP, TOP, TOP, TOP, 0, TOP - 1))
        self.assertEqual(last(*calls, MISSES), [0, 0, 1, TOP, TOP, TOP])


class Drawn(unittest.TestCase):
    def drawn_entries(self, draw, model):
        """Eight entries that overlap: each keeps some of the keys open."""
        calls = [table(*[number for key in model.layout for number in key]), other(2)]
        model.default = 2
        while len(model.entries) < 8:
            numbers = drawn_wide_numbers(draw, model.layout)
            call = draw.randrange(3), draw.randrange(4), numbers
            if model.enter(*call) != [-4]:
                calls.append(entry(call[0], call[1], *numbers))
        return calls

    def check(self, draw, kinds):
        model = WideCount([(kind, 32) for kind in kinds])
        calls = self.drawn_entries(draw, model)
        queries = [SHARES, MISSES] + [matters(number) for number in range(1, 9)]
        answered = ask(*calls, *queries)[len(calls):]
        shares = parts_of(answered[0])
        self.assertEqual(sum(map(count_in, shares.values())) + count_in(answered[1]), 1 << (32 * len(kinds)))
        self.assertEqual(shares, {number: model.share(number) for number in range(1, 9)})
        self.assertEqual(answered[1], model.misses())
        self.assertEqual(answered[2:], [model.relevance(number) for number in range(1, 9)])
        self.check_found(calls, shares)

    def check_found(self, calls, shares):
        """The entry is found for the first key value of its share."""
        shown = [number for number in shares if count_in(shares[number])]
        answered = ask(*calls, *[find(*shares[number][3:]) for number in shown])[len(calls):]
        self.assertEqual([answer[0] for answer in answered], shown)

    def test_three_keys_of_each_match_kind(self):
        for kind in KINDS:
            draw = drawing(20 + kind)
            for at in range(12):
                with self.subTest(kind=kind, at=at):
                    self.check(draw, [kind] * 3)

    def test_mixed_match_kinds(self):
        draw = drawing(31)
        for at in range(30):
            with self.subTest(at=at):
                self.check(draw, [draw.choice(KINDS) for _ in range(draw.randint(1, 3))])

    def test_any_numbers(self):
        draw = drawing(32)
        for at in range(80):
            kinds = [draw.choice(KINDS) for _ in range(draw.randint(1, 3))]
            model = WideCount([(kind, draw.randint(1, 32)) for kind in kinds])
            calls, expected = drawn_table(draw, model, 10)
            numbers = [e[0] for e in model.entries]
            expected.append(shares_answer([(number, model.share(number)) for number in numbers]))
            expected.append(model.misses())
            with self.subTest(at=at):
                self.assertEqual(ask(*calls, SHARES, MISSES), expected)


class Many(unittest.TestCase):
    def test_40_calls_on_the_widest_tables(self):
        draw = drawing(41)
        for kind in KINDS:
            calls = [WIDEST[kind]]
            for at in range(8):
                bits = [1 << (3 * at + k) for k in range(3)]
                numbers = {
                    EXACT: [at, 0] * 3,
                    PREFIX: [TOP, at] * 3,
                    MASK: [n for bit in bits for n in (draw.getrandbits(32), bit)],
                    RANGE: [n for k in range(3) for n in sorted([draw.getrandbits(32), draw.getrandbits(32)])],
                }[kind]
                calls.append(entry(at, at, *numbers))
            calls += [SHARES, MISSES, matters(1)] * 10 + [SHARES]
            self.assertEqual(len(calls), 40)
            answered = ask(*calls)[9:]
            self.assertEqual(answered, answered[:3] * 10 + [answered[0]])
            total = sum(map(count_in, parts_of(answered[0]).values())) + count_in(answered[1])
            self.assertEqual(total, 1 << 96)


if __name__ == "__main__":
    unittest.main()
