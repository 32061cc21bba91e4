import unittest

from tests.helper import SHARES, SPARE, ask, entry, gone, last, matters, other, table


class Spare(unittest.TestCase):
    def test_no_entries(self):
        self.assertEqual(last(SPARE), [0])
        self.assertEqual(last(table(3, 4, 1, 4), SPARE), [0])
        self.assertEqual(last(entry(0, 0, 7, 0), gone(1), SPARE), [0])

    def test_none_redundant(self):
        self.assertEqual(last(entry(0, 1, 7, 0), entry(0, 2, 8, 0), SPARE), [0])
        self.assertEqual(last(table(3, 4), entry(2, 5, 2, 9), entry(1, 6, 0, 4), entry(0, 5, 0, 15), SPARE), [0])

    def test_all_redundant(self):
        self.assertEqual(last(entry(0, 0, 7, 0), SPARE), [1, 1])
        self.assertEqual(last(entry(0, 0, 7, 0), entry(0, 0, 8, 0), entry(0, 0, 9, 0), SPARE), [3, 3, 2, 1])
        calls = [other(9)] + [entry(0, 9, value, 0) for value in range(8)]
        self.assertEqual(last(*calls, SPARE), [8, 8, 7, 6, 5, 4, 3, 2, 1])

    def test_never_found(self):
        self.assertEqual(last(table(3, 4), entry(1, 5, 2, 9), entry(0, 6, 3, 4), SPARE), [1, 2])
        self.assertEqual(last(table(3, 4), entry(0, 6, 3, 4), entry(1, 5, 2, 9), SPARE), [1, 1])
        # Two entries together hide the third.
        calls = table(3, 4), entry(0, 6, 2, 9), entry(1, 5, 2, 5), entry(1, 7, 6, 9)
        self.assertEqual(last(*calls, SPARE), [1, 1])

    def test_the_action_of_the_entry_behind_it(self):
        self.assertEqual(last(table(3, 4), entry(1, 5, 3, 4), entry(0, 5, 2, 9), SPARE), [1, 1])
        self.assertEqual(last(table(1, 4), entry(0, 5, 8, 3), entry(0, 5, 8, 1), SPARE), [1, 1])
        self.assertEqual(last(table(1, 4), entry(0, 5, 8, 3), entry(0, 6, 8, 2), entry(0, 5, 8, 1), SPARE), [0])

    def test_the_default_action(self):
        self.assertEqual(last(table(3, 4), other(5), entry(1, 5, 3, 4), SPARE), [1, 1])
        self.assertEqual(last(table(3, 4), other(6), entry(1, 5, 3, 4), SPARE), [0])

    def test_a_part_of_it_matters(self):
        self.assertEqual(last(table(3, 4), entry(1, 5, 3, 5), entry(0, 5, 0, 4), SPARE), [0])

    def test_one_key_value_of_many_matters(self):
        calls = table(3, 4, 3, 4), entry(9, 5, 0, 15, 0, 14), entry(9, 5, 0, 14, 15, 15), entry(0, 6, 0, 15, 0, 15)
        self.assertEqual(last(*calls, SPARE), [0])
        self.assertEqual(last(*calls, entry(8, 5, 15, 15, 15, 15), SPARE), [1, 3])


class Order(unittest.TestCase):
    def test_the_last_added_ahead(self):
        calls = table(3, 4), entry(9, 0, 1, 1), entry(0, 0, 2, 2), entry(5, 7, 3, 3), entry(3, 0, 4, 4)
        self.assertEqual(last(*calls, SPARE), [3, 4, 2, 1])

    def test_the_order_of_adding_and_not_of_precedence(self):
        calls = table(1, 4), entry(5, 0, 8, 4), entry(9, 0, 8, 1), entry(7, 0, 0, 0)
        self.assertEqual(last(*calls, SPARE), [3, 3, 2, 1])

    def test_numbers_go_on_behind_one_that_is_gone(self):
        calls = entry(0, 0, 1, 0), entry(0, 0, 2, 0), entry(0, 0, 3, 0), gone(2), entry(0, 0, 2, 0)
        self.assertEqual(last(*calls, SPARE), [3, 4, 3, 1])

    def test_of_two_that_stand_in_for_each_other_the_last_added_goes(self):
        same = table(3, 4), entry(1, 5, 2, 9), entry(0, 5, 2, 9)
        self.assertEqual(ask(*same, matters(1), matters(2), SPARE)[3:], [[0, 0, 0], [0, 0, 0], [1, 2]])
        same = table(3, 4), entry(0, 5, 2, 9), entry(1, 5, 2, 9)
        self.assertEqual(ask(*same, matters(1), matters(2), SPARE)[3:], [[0, 0, 0], [0, 0, 0], [1, 2]])

    def test_redundant_only_because_another_is_still_there(self):
        # 1 and 3 together cover 2 with the same action; where 2 can stand in for both, the last goes ahead.
        calls = table(3, 4), entry(3, 5, 0, 3), entry(0, 5, 2, 6), entry(1, 5, 4, 9)
        self.assertEqual(ask(*calls, matters(2), SPARE)[4:], [[0, 0, 0], [1, 2]])
        calls = table(3, 4), entry(0, 5, 0, 7), entry(1, 5, 0, 3), entry(1, 5, 4, 7)
        self.assertEqual(last(*calls, SPARE), [2, 3, 2])
        calls = table(3, 4), entry(1, 5, 0, 3), entry(1, 5, 4, 7), entry(0, 5, 0, 7)
        self.assertEqual(last(*calls, SPARE), [1, 3])

    def test_relevant_once_another_is_gone(self):
        # 2 and 3 stand in for each other over 1: once 3 is gone, 2 matters.
        for calls in (
            [table(3, 4), entry(0, 6, 0, 15), entry(9, 5, 2, 4), entry(5, 5, 2, 4)],
            [table(3, 4), entry(0, 6, 0, 15), entry(5, 5, 2, 4), entry(9, 5, 2, 4)],
        ):
            asked = matters(2), matters(3), SPARE, gone(3), matters(2), SPARE
            self.assertEqual(ask(*calls, *asked)[4:], [[0, 0, 0], [0, 0, 0], [1, 3], [2], [0, 0, 3, 2], [0]])

    def test_redundant_once_another_is_gone(self):
        # 2 is hidden by 3, and 3 has the action behind 2: once 2 is gone, 3 no longer matters.
        calls = table(3, 4), entry(0, 6, 0, 15), entry(1, 5, 2, 4), entry(2, 6, 2, 4)
        self.assertEqual(ask(*calls, matters(3), SPARE)[4:], [[0, 0, 3, 2], [2, 2, 3]])
        # So, too, where 3 was looked at and left ahead of 2, and where 1 comes last.
        calls = table(3, 4), entry(0, 0, 0, 15), entry(1, 5, 2, 4), entry(2, 0, 2, 4)
        self.assertEqual(ask(*calls, matters(3), SPARE)[4:], [[0, 0, 3, 2], [3, 2, 3, 1]])
        calls = table(3, 4), entry(2, 0, 2, 4), entry(1, 5, 2, 4)
        self.assertEqual(ask(*calls, matters(1), matters(2), SPARE)[3:], [[0, 0, 3, 2], [0, 0, 0], [2, 2, 1]])


class State(unittest.TestCase):
    def test_nothing_is_removed(self):
        calls = entry(0, 0, 7, 0), entry(0, 1, 8, 0)
        answered = ask(*calls, SHARES, SPARE, SHARES, SPARE)[2:]
        self.assertEqual(answered[0], answered[2])
        self.assertEqual(answered[1::2], [[1, 1], [1, 1]])

    def test_it_follows_each_change(self):
        calls = entry(0, 0, 7, 0), SPARE, other(1), SPARE, entry(1, 5, 7, 0), SPARE, gone(2), SPARE
        self.assertEqual(ask(*calls)[1::2], [[1, 1], [0], [1, 1], [0]])


if __name__ == "__main__":
    unittest.main()
