import unittest

from tests.helper import KINDS, MISSES, SHARES, ask, entry, find, last, matters, other, result, table


class Width(unittest.TestCase):
    def test_one_key(self):
        for kind in KINDS:
            for width in (1, 2, 17, 31, 32):
                self.assertEqual(ask(table(kind, width), MISSES), [[width], result(1 << width, 0)])

    def test_two_and_three_keys(self):
        self.assertEqual(last(table(0, 1, 3, 32)), [33])
        self.assertEqual(last(table(2, 32, 2, 32)), [64])
        self.assertEqual(last(table(0, 1, 1, 1, 2, 1)), [3])
        self.assertEqual(last(table(1, 5, 2, 9, 3, 20)), [34])
        self.assertEqual(last(table(3, 32, 3, 32, 3, 32)), [96])

    def test_each_key_has_its_own_width(self):
        calls = table(3, 3, 0, 5), find(7, 31), find(8, 0), find(0, 32)
        self.assertEqual(ask(*calls)[1:], [[0, 0], [-1], [-1]])


class Refused(unittest.TestCase):
    wrong = {
        "odd length": ([0], [0, 8, 1], [0, 8, 0, 8, 0], [0] * 7, [1] * 9),
        "no keys": ([],),
        "four or five keys": ([0, 8] * 4, [0, 8] * 5),
        "match kind": ([4, 8], [0, 8, 4, 8], [0, 8, 0, 8, 4, 8], [4294967295, 8]),
        "width 0": ([0, 0], [1, 0], [2, 0], [3, 0], [0, 8, 0, 0], [0, 8, 0, 8, 3, 0]),
        "width above 32": ([0, 33], [1, 33], [2, 33], [3, 33], [0, 8, 0, 33], [0, 8, 0, 8, 2, 33], [0, 4294967295]),
    }

    def test_each_error(self):
        for why, lists in self.wrong.items():
            for keys in lists:
                with self.subTest(why, keys=keys):
                    self.assertEqual(last(table(*keys)), [-1])

    def test_the_old_table_stays_with_its_entries(self):
        before = table(3, 4, 1, 4), other(7), entry(2, 5, 1, 9, 0, 1), entry(1, 6, 0, 15, 0, 0)
        after = SHARES, MISSES, matters(1), find(1, 1), find(16, 0), entry(0, 0, 2, 2, 3, 4)
        expected = ask(*before, *after)[len(before):]
        for lists in self.wrong.values():
            for keys in lists:
                with self.subTest(keys=keys):
                    self.assertEqual(ask(*before, table(*keys), *after)[len(before) + 1:], expected)


class Anew(unittest.TestCase):
    def test_no_entries_no_default_action_and_numbers_from_1(self):
        before = table(0, 4), other(7), entry(0, 5, 3, 0), entry(0, 5, 4, 0)
        self.assertEqual(
            ask(*before, table(0, 4), SHARES, MISSES, find(3), matters(1), entry(0, 5, 3, 0))[4:],
            [[4], [0], result(16, 0), [0, 0], [-2], [1]],
        )

    def test_nine_entries_over_two_tables(self):
        calls = [table(0, 4)] + [entry(0, 1, value, 0) for value in range(8)] + [table(0, 4), entry(0, 1, 0, 0)]
        self.assertEqual(last(*calls), [1])


if __name__ == "__main__":
    unittest.main()
