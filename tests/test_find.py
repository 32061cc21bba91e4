import unittest

from tests.helper import ask, entry, find, last, other, table


class Precedence(unittest.TestCase):
    def test_the_highest_priority(self):
        keys = table(3, 4)
        self.assertEqual(last(keys, entry(1, 5, 0, 9), entry(2, 6, 5, 15), entry(0, 7, 0, 15), find(7)), [2, 6])
        self.assertEqual(last(keys, entry(2, 5, 0, 9), entry(1, 6, 5, 15), find(7)), [1, 5])
        self.assertEqual(last(keys, entry(65535, 5, 0, 9), entry(65534, 6, 5, 15), find(7)), [1, 5])

    def test_priority_counts_more_than_prefix_length(self):
        self.assertEqual(last(table(1, 4), entry(1, 5, 8, 1), entry(0, 6, 8, 4), find(8)), [1, 5])

    def test_the_greatest_prefix_length(self):
        calls = table(1, 4), entry(3, 5, 0, 0), entry(3, 6, 8, 3), entry(3, 7, 8, 1)
        self.assertEqual(ask(*calls, find(9), find(12), find(3))[4:], [[2, 6], [3, 7], [1, 5]])

    def test_the_total_length_of_all_prefix_keys(self):
        keys = table(1, 4, 1, 4, 1, 4)
        calls = keys, entry(3, 5, 8, 4, 0, 0, 0, 0), entry(3, 6, 8, 1, 8, 2, 8, 2)
        self.assertEqual(last(*calls, find(8, 8, 8)), [2, 6])
        calls = keys, entry(3, 5, 8, 4, 8, 2, 8, 0), entry(3, 6, 8, 1, 8, 2, 8, 2)
        self.assertEqual(last(*calls, find(8, 8, 8)), [1, 5])

    def test_numbers_of_other_keys_are_no_lengths(self):
        calls = table(1, 4, 2, 4, 3, 4), entry(3, 5, 8, 1, 0, 15, 0, 15), entry(3, 6, 8, 2, 0, 0, 0, 0)
        self.assertEqual(last(*calls, find(8, 0, 0)), [2, 6])
        calls = table(3, 4, 2, 4, 1, 4), entry(3, 5, 0, 0, 0, 0, 8, 2), entry(3, 6, 0, 15, 0, 15, 8, 1)
        self.assertEqual(last(*calls, find(0, 0, 8)), [1, 5])
        calls = table(2, 4), entry(3, 5, 0, 0), entry(3, 6, 0, 15)
        self.assertEqual(last(*calls, find(0)), [1, 5])

    def test_the_lowest_number(self):
        calls = table(3, 4), entry(3, 5, 0, 9), entry(3, 6, 5, 15), entry(3, 7, 0, 15)
        self.assertEqual(ask(*calls, find(7), find(12))[4:], [[1, 5], [2, 6]])
        calls = table(1, 4, 1, 4), entry(3, 5, 8, 1, 8, 2), entry(3, 6, 8, 2, 8, 1)
        self.assertEqual(last(*calls, find(8, 8)), [1, 5])

    def test_bits_that_do_not_count_do_not_lengthen(self):
        self.assertEqual(last(table(1, 4), entry(3, 5, 8, 2), entry(3, 6, 11, 2), find(9)), [1, 5])


class NoEntry(unittest.TestCase):
    def test_the_default_action(self):
        self.assertEqual(last(table(0, 4), entry(1, 5, 3, 0), find(4)), [0, 0])
        self.assertEqual(last(table(0, 4), other(9), entry(1, 5, 3, 0), find(4)), [0, 9])

    def test_an_entry_with_action_0_is_not_none(self):
        self.assertEqual(last(table(0, 4), other(9), entry(1, 0, 3, 0), find(3)), [1, 0])


class Refused(unittest.TestCase):
    def test_how_many_values(self):
        for count in (0, 2, 3, 10):
            self.assertEqual(last(table(0, 4), find(*[0] * count)), [-1])
        for count in (0, 1, 3, 4):
            self.assertEqual(last(table(0, 4, 0, 4), find(*[0] * count)), [-1])
        for count in (0, 1, 2, 4):
            self.assertEqual(last(table(0, 4, 0, 4, 0, 4), find(*[0] * count)), [-1])

    def test_a_value_that_does_not_fit(self):
        keys = table(0, 4, 3, 1, 2, 32)
        self.assertEqual(last(keys, find(15, 1, 4294967295)), [0, 0])
        self.assertEqual(last(keys, find(16, 1, 0)), [-1])
        self.assertEqual(last(keys, find(15, 2, 0)), [-1])
        self.assertEqual(last(table(0, 4), find(4294967295)), [-1])
        self.assertEqual(last(table(2, 31), find(1 << 31)), [-1])

    def test_a_mask_or_prefix_does_not_let_it_fit(self):
        self.assertEqual(last(table(2, 4), entry(1, 5, 0, 0), find(16)), [-1])
        self.assertEqual(last(table(1, 4), entry(1, 5, 0, 0), find(16)), [-1])


if __name__ == "__main__":
    unittest.main()
