"""Spare, drop, overlap, doing and differ on keys of up to 96 bits, and how long they take."""

import time
import unittest

from tests.helper import (
    DIFFER, DROP, EXACT, KEEP, KINDS, LIST, MASK, MISSES, PREFIX, RANGE, SHARES, SPARE, TOP, WHOLE, WIDEST,
    PlainSession, WideCount, ask, count_in, doing, drawing, drawn_entry, drawn_lists, drawn_wide_numbers, entry, find,
    gone, last, matters, other, overlap, result, table,
)


class ByHand(unittest.TestCase):
    def test_one_bit_each_in_either_table(self):
        # Action 1 if one of five bits is set, of the one five in the saved table and the other five in the new one.
        saved_bits, new_bits = [95, 70, 64, 41, 3], [90, 63, 32, 30, 0]
        calls = [WIDEST[MASK]]
        calls += [entry(0, 1, *self.bit_numbers(bit)) for bit in saved_bits] + [KEEP]
        calls += [gone(number) for number in range(1, 6)] + [entry(0, 1, *self.bit_numbers(bit)) for bit in new_bits]
        unlike = 2 * 31 << 86
        self.assertEqual(last(*calls, DIFFER), result(unlike, 0, 0, 1))
        self.assertEqual(last(*calls, doing(1)), result((1 << 96) - (1 << 91), 0, 0, 1))
        self.assertEqual(last(*calls, other(1), DIFFER), result(1 << 91, 0, 0, 0))

    @staticmethod
    def bit_numbers(bit):
        return [n for shift in (64, 32, 0) for n in [(1 << bit) >> shift & TOP] * 2]

    def test_the_default_action_alone(self):
        for kind in KINDS:
            self.assertEqual(last(WIDEST[kind], other(1), DIFFER), [TOP + 1, 0, 0, 0, 0, 0])
            self.assertEqual(last(WIDEST[kind], doing(0)), [TOP + 1, 0, 0, 0, 0, 0])
        for kind, numbers in WHOLE.items():
            calls = WIDEST[kind], entry(0, 1, *numbers * 3), KEEP, other(1)
            self.assertEqual(ask(*calls, DIFFER, SPARE, DROP, DIFFER)[4:], [[0, 0, 0], [1, 1], [0], [0, 0, 0]])

    def test_one_key_value_of_all(self):
        alone = {EXACT: [TOP, 0], PREFIX: [TOP, 32], MASK: [TOP, TOP], RANGE: [TOP, TOP]}
        for kind, numbers in alone.items():
            calls = WIDEST[kind], entry(0, 1, *numbers * 3)
            self.assertEqual(last(*calls, DIFFER), [0, 0, 1, TOP, TOP, TOP])
            self.assertEqual(ask(*calls, SPARE, overlap(1, 1))[2:], [[0], [0, 0, 1, TOP, TOP, TOP]])
            self.assertEqual(last(*calls, other(1), doing(0)), [0, 0, 0])

    def test_ranges_moved_by_one(self):
        calls = [WIDEST[RANGE]] + [entry(0, at, *[at << 20, (at << 20) + 999] * 3) for at in range(1, 6)] + [KEEP]
        calls += [gone(at) for at in range(1, 6)]
        calls += [entry(0, at, *[(at << 20) + 1, (at << 20) + 1000] * 3) for at in range(1, 6)]
        self.assertEqual(last(*calls, DIFFER), result(10 * (1000 ** 3 - 999 ** 3), *[1 << 20] * 3))

    def test_prefixes_cut_in_two(self):
        whole, left, right = [TOP, 31, 0, 0, 0, 0], [TOP - 1, 32, 0, 0, 0, 0], [TOP, 32, 0, 0, 0, 0]
        calls = WIDEST[PREFIX], entry(0, 5, *whole), KEEP, gone(1), entry(0, 5, *left), entry(0, 5, *right)
        self.assertEqual(last(*calls, DIFFER), [0, 0, 0])
        self.assertEqual(last(*calls, gone(3), DIFFER), [1, 0, 0, TOP, 0, 0])


class Drawn(unittest.TestCase):
    """Drawn tables of ten lists of key numbers, counted by taking intersections away and in again."""

    def both_tables(self, draw, model, lists):
        """Calls for a saved table of eight entries and a current one of eight; what is saved."""
        calls = [table(*[number for key in model.layout for number in key])]
        for numbers in lists[:8]:
            self.enter(draw, model, calls, numbers)
        saved = list(model.entries), model.default
        calls.append(KEEP)
        for number in draw.sample(range(1, 9), 4):
            model.remove(number)
            calls.append(gone(number))
        for numbers in lists[8:] + draw.sample(lists[:8], 2):
            self.enter(draw, model, calls, numbers)
        model.default = draw.randrange(2)
        return calls + [other(model.default)], saved

    @staticmethod
    def enter(draw, model, calls, numbers):
        call = draw.randrange(3), draw.randrange(3), numbers
        if model.enter(*call)[0] > 0:
            calls.append(entry(call[0], call[1], *numbers))

    def check(self, draw, kinds):
        model = WideCount([(kind, 32) for kind in kinds])
        lists = [drawn_wide_numbers(draw, model.layout) for _ in range(10)]
        calls, saved = self.both_tables(draw, model, lists)
        pair = [draw.choice(model.entries)[0] for _ in range(2)]
        expected = [model.differing(*saved), model.spare(), model.overlap(*pair)]
        expected += [model.doing(action) for action in range(4)]
        queries = [DIFFER, SPARE, overlap(*pair)] + [doing(action) for action in range(4)]
        self.assertEqual(ask(*calls, *queries)[len(calls):], expected)
        self.assertEqual(sum(map(count_in, expected[3:])), 1 << (32 * len(kinds)))
        self.check_drop(calls, expected)

    def check_drop(self, calls, expected):
        before = ask(*calls, LIST)[-1]
        answered = ask(*calls, DROP, LIST, DIFFER, KEEP, SPARE)[len(calls):]
        self.assertEqual(answered[0], [before[0] - expected[1][0]])
        self.assertEqual(answered[2:], [expected[0], answered[0], [0]])
        self.assertEqual(last(*calls, KEEP, DROP, DIFFER), [0, 0, 0])

    def test_three_keys_of_each_match_kind(self):
        for kind in KINDS:
            draw = drawing(90 + kind)
            for at in range(20):
                with self.subTest(kind=kind, at=at):
                    self.check(draw, [kind] * 3)

    def test_mixed_match_kinds(self):
        draw = drawing(95)
        for at in range(40):
            with self.subTest(at=at):
                self.check(draw, [draw.choice(KINDS) for _ in range(draw.randint(1, 3))])


class Related(unittest.TestCase):
    """What one call tells of another, on the widest tables."""

    def test_each_change_alone(self):
        draw = drawing(96)
        for at in range(60):
            kinds = [draw.choice(KINDS) for _ in range(3)] if at % 2 else [at // 2 % 4] * 3
            layout = [(kind, 32) for kind in kinds]
            lists = [drawn_wide_numbers(draw, layout) for _ in range(7)]
            calls = [table(*[number for key in layout for number in key]), other(2)]
            calls += [entry(at % 4, draw.randrange(3), *numbers) for at, numbers in enumerate(lists)] + [KEEP]
            number = draw.randint(1, 7)
            self.assertEqual(last(*calls, gone(number), DIFFER), last(*calls, matters(number)))
            self.assertEqual(last(*calls, other(9), DIFFER), last(*calls, MISSES))
            answered = ask(*calls, entry(2, 9, *drawn_wide_numbers(draw, layout)), DIFFER, matters(8), doing(9))
            self.assertEqual(answered[-3], answered[-2])
            self.assertEqual(answered[-3], answered[-1])


class Stretched(unittest.TestCase):
    """Small tables whose bits are put to places scattered over keys of 32 bits.

    A range or prefix keeps its bits together, ahead. All counts grow by the bits that don't count.
    """

    def check(self, draw, kinds):
        widths = [draw.randint(1, 3) for _ in kinds]
        small = PlainSession(list(zip(kinds, widths)))
        self.places = [sorted(draw.sample(range(32), width)) if kind == MASK else range(32 - width, 32)
                       for kind, width in small.layout]
        self.more = 32 * len(kinds) - sum(widths)
        lists = drawn_lists(draw, small.layout)
        small_calls = [drawn_entry(draw, lists) for _ in range(draw.randint(3, 10))] + [KEEP]
        small_calls += [gone(number) for number in range(1, 9) if draw.random() < 0.4]
        small_calls += [drawn_entry(draw, lists) for _ in range(4)]
        small_calls += [other(draw.randrange(3)), SPARE, DIFFER, doing(0), doing(1), doing(2), MISSES, matters(9),
                        overlap(9, 10), DROP, DIFFER]
        expected = [self.wide_answer(call, small.answer(call)) for call in small_calls]
        calls = [self.wide_call(kinds, call) for call in small_calls]
        self.assertEqual(ask(table(*[n for kind in kinds for n in (kind, 32)]), *calls)[1:], expected)

    def scattered(self, key, number):
        return sum(1 << place for at, place in enumerate(self.places[key]) if number >> at & 1)

    def wide_call(self, kinds, call):
        if call[0] != 1:
            return call
        numbers = []
        for key, kind in enumerate(kinds):
            first, second = call[4 + 2 * key:6 + 2 * key]
            open_bits = (1 << self.places[key][0]) - 1
            numbers.append(self.scattered(key, first))
            numbers.append({PREFIX: second, MASK: self.scattered(key, second),
                            RANGE: self.scattered(key, second) | open_bits}[kind])
        return entry(call[1], call[2], *numbers)

    def wide_answer(self, call, answered):
        if call[0] not in (6, 7, 10, 11, 13) or len(answered) == 1:
            return answered
        return result(count_in(answered) << self.more,
                      *[self.scattered(key, value) for key, value in enumerate(answered[3:])])

    def test_each_match_kind(self):
        for kind in (PREFIX, MASK, RANGE):
            draw = drawing(100 + kind)
            for at in range(150):
                with self.subTest(kind=kind, at=at):
                    self.check(draw, [kind] * 3)

    def test_mixed_match_kinds(self):
        draw = drawing(105)
        for at in range(150):
            with self.subTest(at=at):
                self.check(draw, [draw.choice((PREFIX, MASK, RANGE)) for _ in range(draw.randint(1, 3))])


class Duration(unittest.TestCase):
    """Lists of 40 calls on three keys of 32 bits are answered within two seconds."""

    def answered(self, calls):
        self.assertEqual(len(calls), 40)
        begun = time.process_time()
        answered = ask(*calls)
        self.assertLess(time.process_time() - begun, 2)
        return answered

    def scattered_masks(self, draw, most):
        """Ten lists of masks, up to so many of which ask for a bit; no two ask for another digit of it."""
        wanted, masks = draw.getrandbits(96), [0] * 10
        for bit in range(96):
            for at in draw.sample(range(10), most):
                masks[at] |= 1 << bit
        return [[n for shift in (64, 32, 0) for n in ((wanted & mask) >> shift & TOP, mask >> shift & TOP)]
                for mask in masks]

    def tables(self):
        """Ten lists of key numbers each, with the match kind."""
        draw = drawing(110)
        for kind in KINDS:
            yield kind, [drawn_wide_numbers(draw, [(kind, 32)] * 3) for _ in range(10)]
        for most in (1, 2, 3, 5):
            yield MASK, self.scattered_masks(draw, most)
        yield MASK, [[draw.getrandbits(32) for _ in range(6)] for _ in range(10)]
        yield RANGE, [[n for _ in range(3) for n in sorted(draw.sample(range(TOP), 2))] for _ in range(10)]

    def test_queries(self):
        for kind, lists in self.tables():
            calls = [WIDEST[kind]] + [entry(at % 3, at % 2, *numbers) for at, numbers in enumerate(lists[:8])]
            for query in (SPARE, doing(1), SHARES, MISSES, matters(3), overlap(1, 8), DIFFER):
                with self.subTest(kind=kind, query=query):
                    answered = self.answered(calls + [query] * 31)[9:]
                    self.assertEqual(answered, answered[:1] * 31)

    def test_differ_with_ten_lists(self):
        for kind, lists in self.tables():
            with self.subTest(kind=kind):
                calls = [WIDEST[kind]] + [entry(at % 3, at % 4, *numbers) for at, numbers in enumerate(lists[:8])]
                calls += [KEEP, gone(1), gone(5)] + [entry(9, 5 + at, *numbers) for at, numbers in enumerate(lists[8:])]
                answered = self.answered(calls + [DIFFER] * 26)[14:]
                self.assertGreater(count_in(answered[0]), 0)
                self.assertEqual(answered, answered[:1] * 26)

    def test_drop_with_entries_in_between(self):
        for kind, lists in self.tables():
            calls = [WIDEST[kind]]
            while len(calls) < 38:
                calls += [entry(len(calls), len(calls) // 4 % 2, *lists[len(calls) % 10]), DROP]
            with self.subTest(kind=kind):
                self.assertEqual(self.answered(calls + [SPARE])[-1], [0])

    def test_40_times_the_same(self):
        self.assertEqual(self.answered([SPARE] * 40), [[0]] * 40)
        self.assertEqual(self.answered([DROP] * 40), [[0]] * 40)
        self.assertEqual(self.answered([DIFFER] * 40), [[0, 0, 0]] * 40)
        self.assertEqual(self.answered([doing(0)] * 40), [result(256, 0)] * 40)
        self.assertEqual(self.answered([LIST] * 40), [[0, 0]] * 40)
        self.assertEqual(self.answered([KEEP] * 40), [[0]] * 40)
        self.assertEqual(self.answered([WIDEST[RANGE]] + [find(0, TOP, 0)] * 39)[1:], [[0, 0]] * 39)


if __name__ == "__main__":
    unittest.main()
