import unittest

from tests.helper import DIFFER, DROP, KEEP, TOP, ask, entry, find, gone, last, other, result, table

NOTHING = [0, 0, 0]
TWO = table(3, 4), entry(2, 5, 2, 6), entry(1, 6, 5, 9), KEEP


class Alike(unittest.TestCase):
    def test_at_the_very_beginning(self):
        self.assertEqual(last(DIFFER), NOTHING)

    def test_right_behind_table(self):
        self.assertEqual(last(table(3, 32, 2, 32, 1, 32), DIFFER), NOTHING)
        self.assertEqual(last(*TWO, other(9), gone(1), table(3, 4), DIFFER), NOTHING)

    def test_right_behind_keep(self):
        self.assertEqual(last(*TWO, DIFFER), NOTHING)
        self.assertEqual(last(other(7), entry(1, 6, 5, 0), KEEP, DIFFER), NOTHING)

    def test_behind_drop(self):
        calls = table(3, 4), entry(2, 5, 2, 6), entry(1, 5, 3, 5), entry(1, 0, 12, 14), KEEP, DROP, DIFFER
        self.assertEqual(ask(*calls)[-3:], [[3], [1], NOTHING])

    def test_changes_that_change_no_action(self):
        self.assertEqual(last(*TWO, entry(0, 9, 5, 9), DIFFER), NOTHING)
        self.assertEqual(last(*TWO, entry(3, 5, 2, 6), gone(1), DIFFER), NOTHING)
        self.assertEqual(last(*TWO, entry(2, 6, 7, 9), gone(2), entry(0, 6, 6, 7), DIFFER), NOTHING)
        self.assertEqual(last(*TWO, entry(0, 0, 10, 15), DIFFER), NOTHING)

    def test_changed_and_changed_back(self):
        self.assertEqual(ask(*TWO, other(4), DIFFER, other(0), DIFFER)[4:], [[0], result(8, 0), [0], NOTHING])
        self.assertEqual(ask(*TWO, entry(9, 9, 0, 15), DIFFER, gone(3), DIFFER)[4:],
                         [[3], result(16, 0), [2], NOTHING])

    def test_the_same_in_other_entries(self):
        # The saved table splits the key values in halves, the current one by single bits.
        calls = table(2, 4), entry(1, 5, 0, 12), entry(1, 5, 4, 12), KEEP, gone(1), gone(2), entry(0, 5, 0, 8)
        self.assertEqual(last(*calls, DIFFER), NOTHING)
        self.assertEqual(last(*calls, entry(5, 6, 7, 15), DIFFER), result(1, 7))


class OtherAlone(unittest.TestCase):
    def test_where_no_entry_is_found(self):
        self.assertEqual(last(other(1), DIFFER), result(256, 0))
        self.assertEqual(last(*TWO, other(4), DIFFER), result(8, 0))
        self.assertEqual(last(*TWO, other(5), DIFFER), result(8, 0))

    def test_entries_with_that_action_do_not_differ(self):
        self.assertEqual(last(table(3, 4), entry(0, 0, 0, 3), entry(0, 4, 4, 7), KEEP, other(4), DIFFER), result(8, 8))

    def test_an_entry_everywhere(self):
        self.assertEqual(last(table(1, 4), entry(0, 5, 0, 0), KEEP, other(4), DIFFER), NOTHING)
        self.assertEqual(last(table(3, 4), entry(0, 5, 0, 7), entry(0, 5, 8, 15), KEEP, other(4), DIFFER), NOTHING)

    def test_the_highest_action(self):
        self.assertEqual(last(other(TOP), KEEP, other(TOP - 1), DIFFER), result(256, 0))


class Entries(unittest.TestCase):
    def test_behind_entry(self):
        self.assertEqual(last(*TWO, entry(3, 7, 0, 3), DIFFER), result(4, 0))
        self.assertEqual(last(*TWO, entry(0, 7, 0, 15), DIFFER), result(8, 0))
        self.assertEqual(last(*TWO, entry(3, 5, 5, 9), DIFFER), result(3, 7))

    def test_behind_gone(self):
        self.assertEqual(last(*TWO, gone(1), DIFFER), result(5, 2))
        self.assertEqual(last(*TWO, gone(2), DIFFER), result(3, 7))
        self.assertEqual(last(*TWO, gone(1), gone(2), DIFFER), result(8, 2))

    def test_behind_drop_and_other(self):
        calls = table(3, 4), entry(2, 5, 2, 6), entry(1, 0, 9, 9), KEEP, DROP, other(4), DIFFER
        self.assertEqual(last(*calls), result(11, 0))

    def test_behind_several(self):
        calls = *TWO, gone(1), entry(5, 7, 8, 12), other(6), DIFFER
        # 0 and 1 by the default action, 2 to 4 by 1 no longer, 5 and 6 by 2 now, 7 as it was, 8 on by 3 and default.
        self.assertEqual(last(*calls), result(15, 0))
        calls = *TWO, gone(1), entry(5, 5, 2, 4), gone(2), entry(0, 6, 7, 9), DIFFER
        self.assertEqual(last(*calls), result(2, 5))

    def test_a_new_table_is_saved_too(self):
        self.assertEqual(last(*TWO, table(3, 4), entry(0, 5, 2, 9), DIFFER), result(8, 2))
        self.assertEqual(last(*TWO, table(0, 4, 1, 4), other(5), DIFFER), result(256, 0, 0))

    def test_entries_of_the_one_table_never_decide_in_the_other(self):
        # The saved entry of priority 9 has no say in the current table, nor the one of priority 8 in the saved one.
        calls = table(3, 4), entry(9, 5, 0, 15), entry(1, 6, 0, 7), KEEP, gone(1)
        self.assertEqual(last(*calls, DIFFER), result(16, 0))
        self.assertEqual(last(*calls, other(5), DIFFER), result(8, 0))
        self.assertEqual(last(*calls, entry(8, 5, 4, 15), DIFFER), result(4, 0))

    def test_the_same_key_numbers_in_both_with_other_precedence(self):
        calls = table(3, 4), entry(2, 5, 0, 9), entry(1, 6, 4, 12), KEEP, gone(1), entry(0, 5, 0, 9)
        self.assertEqual(last(*calls, DIFFER), result(6, 4))

    def test_the_same_key_numbers_in_both_with_another_action(self):
        calls = table(3, 4), entry(2, 5, 0, 9), KEEP, gone(1), entry(2, 6, 0, 9)
        self.assertEqual(last(*calls, DIFFER), result(10, 0))

    def test_the_first_is_the_lexicographically_first(self):
        calls = table(3, 4, 3, 4), entry(0, 5, 3, 9, 7, 9), KEEP, gone(1), entry(0, 5, 4, 9, 2, 9)
        self.assertEqual(last(*calls, DIFFER), result(3 + 6 * 5, 3, 7))


class AgainAdded(unittest.TestCase):
    def test_with_the_same_numbers(self):
        self.assertEqual(last(*TWO, gone(1), entry(2, 5, 2, 6), DIFFER), NOTHING)
        self.assertEqual(last(*TWO, gone(2), entry(1, 6, 5, 9), DIFFER), NOTHING)
        self.assertEqual(last(*TWO, gone(1), gone(2), entry(1, 6, 5, 9), entry(2, 5, 2, 6), DIFFER), NOTHING)

    def test_its_number_was_what_put_it_ahead(self):
        calls = table(3, 4), entry(1, 5, 2, 6), entry(1, 6, 5, 9), KEEP, gone(1), entry(1, 5, 2, 6)
        self.assertEqual(ask(*calls, find(5), DIFFER)[6:], [[2, 6], result(2, 5)])
        self.assertEqual(last(*calls, gone(2), entry(1, 6, 5, 9), DIFFER), NOTHING)


class State(unittest.TestCase):
    def test_it_changes_neither_table(self):
        calls = *TWO, gone(1), DIFFER, DIFFER, entry(2, 5, 2, 6), DIFFER, find(2)
        self.assertEqual(ask(*calls)[5:], [result(5, 2), result(5, 2), [3], NOTHING, [3, 5]])


if __name__ == "__main__":
    unittest.main()
