import unittest

from tests.helper import MISSES, SHARES, ask, entry, gone, last, matters, other, result, shares_answer, table


class Shares(unittest.TestCase):
    def test_no_entries(self):
        self.assertEqual(last(table(3, 4, 3, 4), SHARES), [0])

    def test_the_answer_number_by_number(self):
        calls = table(3, 4, 0, 2), entry(1, 5, 2, 6, 3, 0), entry(2, 5, 6, 6, 3, 0), entry(0, 7, 3, 4, 3, 0)
        self.assertEqual(last(*calls, SHARES), [3, 1, 5, 0, 0, 4, 2, 3, 2, 5, 0, 0, 1, 6, 3, 3, 3, 0, 0, 0])

    def test_in_the_order_in_which_they_were_added(self):
        calls = table(3, 4), entry(1, 5, 0, 3), entry(3, 5, 2, 5), entry(2, 5, 4, 9), gone(1), entry(9, 5, 9, 9)
        expected = [(2, result(4, 2)), (3, result(3, 6)), (4, result(1, 9))]
        self.assertEqual(last(*calls, SHARES), shares_answer(expected))

    def test_the_first_key_value_is_the_lexicographically_first(self):
        # (0, 5) is found elsewhere: what stays begins with a greater second number at first key 0.
        calls = table(3, 4, 3, 4), entry(0, 5, 0, 1, 5, 9), entry(1, 6, 0, 0, 0, 7)
        self.assertEqual(last(*calls, SHARES), shares_answer([(1, result(7, 0, 8)), (2, result(8, 0, 0))]))
        calls = table(3, 4, 3, 4), entry(0, 5, 0, 1, 5, 9), entry(1, 6, 0, 0, 0, 15)
        self.assertEqual(last(*calls, SHARES), shares_answer([(1, result(5, 1, 5)), (2, result(16, 0, 0))]))

    def test_the_action_does_not_count(self):
        calls = table(1, 4), entry(0, 5, 0, 0), entry(0, 5, 8, 1), other(5)
        self.assertEqual(last(*calls, SHARES), shares_answer([(1, result(8, 0)), (2, result(8, 8))]))


class Misses(unittest.TestCase):
    def test_no_entries(self):
        self.assertEqual(last(table(3, 4, 1, 4), MISSES), [0, 0, 256, 0, 0])

    def test_what_no_entry_matches(self):
        self.assertEqual(last(table(3, 4), entry(0, 5, 0, 3), entry(0, 5, 6, 9), MISSES), result(8, 4))
        self.assertEqual(last(table(2, 4), entry(0, 0, 0, 1), MISSES), result(8, 1))
        self.assertEqual(last(table(1, 4, 3, 2), entry(0, 0, 0, 1, 1, 3), entry(0, 1, 0, 2, 0, 0), MISSES),
                         result(36, 4, 0))

    def test_nothing_missed_is_three_zeros_alone(self):
        self.assertEqual(last(table(3, 4), entry(0, 5, 0, 8), entry(0, 5, 8, 15), MISSES), [0, 0, 0])
        self.assertEqual(last(table(1, 32, 1, 32), entry(0, 5, 0, 0, 0, 0), MISSES), [0, 0, 0])


class Matters(unittest.TestCase):
    def test_where_another_action_would_come(self):
        calls = table(3, 4), entry(1, 5, 2, 9), entry(0, 6, 0, 4)
        self.assertEqual(last(*calls, matters(1)), result(8, 2))
        self.assertEqual(last(*calls, matters(2)), result(2, 0))

    def test_the_same_action_behind_it(self):
        calls = table(3, 4), entry(1, 5, 2, 9), entry(0, 5, 0, 4)
        self.assertEqual(last(*calls, matters(1)), result(5, 5))
        self.assertEqual(last(*calls, matters(2)), result(2, 0))

    def test_only_the_next_entry_counts(self):
        calls = table(3, 4), entry(2, 5, 2, 9), entry(1, 6, 0, 4), entry(0, 5, 0, 15)
        self.assertEqual(last(*calls, matters(1)), result(3, 2))
        self.assertEqual(last(*calls, matters(2)), result(2, 0))
        self.assertEqual(last(*calls, matters(3)), result(6, 10))

    def test_the_default_action(self):
        calls = table(3, 4), entry(1, 5, 2, 9), entry(0, 0, 8, 12)
        self.assertEqual(last(*calls, matters(2)), [0, 0, 0])
        self.assertEqual(last(*calls, other(5), matters(1)), result(2, 8))
        self.assertEqual(last(*calls, other(5), matters(2)), result(3, 10))

    def test_never_found(self):
        calls = table(3, 4), entry(1, 5, 2, 9), entry(0, 6, 3, 4)
        self.assertEqual(last(*calls, matters(2)), [0, 0, 0])
        self.assertEqual(last(*calls, SHARES), shares_answer([(1, result(8, 2)), (2, [0, 0, 0])]))

    def test_no_such_entry(self):
        calls = table(3, 4), entry(1, 5, 2, 9), entry(0, 6, 0, 4), gone(1)
        for number in (0, 1, 3, 4294967295):
            self.assertEqual(last(*calls, matters(number)), [-2])
        self.assertEqual(last(*calls, matters(2)), result(5, 0))


class State(unittest.TestCase):
    def test_shares_follow_each_change(self):
        calls = table(0, 4), entry(0, 5, 3, 0), MISSES, gone(1), MISSES, entry(0, 5, 0, 0), MISSES
        self.assertEqual(ask(*calls)[2::2], [result(15, 0), result(16, 0), result(15, 1)])


if __name__ == "__main__":
    unittest.main()
