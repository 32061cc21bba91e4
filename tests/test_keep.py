import unittest

from tests.helper import (
    DIFFER, DROP, KEEP, LIST, SHARES, TOP, ask, entry, find, gone, last, matters, other, result, table,
)

THREE = entry(0, 1, 10, 0), entry(0, 2, 20, 0), entry(0, 3, 30, 0)


class Keep(unittest.TestCase):
    def test_the_count(self):
        self.assertEqual(last(KEEP), [0])
        self.assertEqual(last(*THREE, KEEP), [3])
        self.assertEqual(last(*THREE, gone(1), KEEP), [2])
        self.assertEqual(last(*THREE, other(2), DROP, KEEP), [2])
        self.assertEqual(last(*[entry(0, 0, value, 0) for value in range(8)], KEEP), [8])

    def test_the_current_table_stays(self):
        asked = LIST, SHARES, find(20), matters(3), find(7)
        self.assertEqual(ask(*THREE, other(9), KEEP, *asked)[5:], ask(*THREE, other(9), *asked)[4:])

    def test_numbers_go_on(self):
        self.assertEqual(last(*THREE, KEEP, entry(0, 4, 40, 0)), [4])
        self.assertEqual(last(*THREE, gone(3), KEEP, entry(0, 4, 40, 0)), [4])
        self.assertEqual(last(*THREE, KEEP, gone(3), KEEP, entry(0, 3, 30, 0)), [4])

    def test_what_is_saved_has_no_share_in_the_errors(self):
        # An entry that is saved and no longer there is neither twice nor one of eight.
        self.assertEqual(last(*THREE, KEEP, gone(2), entry(0, 2, 20, 0)), [4])
        eight = [entry(0, 1, value, 0) for value in range(8)]
        self.assertEqual(ask(*eight, KEEP, gone(8), entry(0, 1, 8, 0), entry(0, 1, 9, 0))[8:], [[8], [7], [9], [-5]])
        self.assertEqual(last(*THREE, KEEP, gone(2), matters(2)), [-2])


class Saved(unittest.TestCase):
    def test_a_later_entry_does_not_change_it(self):
        self.assertEqual(last(*THREE, KEEP, entry(0, 4, 40, 0), DIFFER), result(1, 40))
        self.assertEqual(last(KEEP, entry(0, 4, 40, 0), DIFFER), result(1, 40))

    def test_a_later_gone_does_not_change_it(self):
        self.assertEqual(last(*THREE, KEEP, gone(2), DIFFER), result(1, 20))

    def test_a_later_other_does_not_change_it(self):
        self.assertEqual(last(*THREE, KEEP, other(TOP), DIFFER), result(253, 0))

    def test_a_later_drop_does_not_change_it(self):
        # Dropped from the current table, the entry is still in the saved one when the default action changes.
        self.assertEqual(last(entry(0, 0, 10, 0), KEEP, DROP, other(1), DIFFER), result(256, 0))
        self.assertEqual(last(entry(0, 0, 10, 0), KEEP, other(1), DIFFER), result(255, 0))

    def test_keep_twice(self):
        self.assertEqual(ask(*THREE, KEEP, KEEP, DIFFER)[3:], [[3], [3], [0, 0, 0]])
        calls = *THREE, KEEP, gone(2), KEEP, gone(3), DIFFER, KEEP, DIFFER
        self.assertEqual(ask(*calls)[5:], [[2], [1], result(1, 30), [1], [0, 0, 0]])

    def test_only_the_last_keep_counts(self):
        calls = KEEP, entry(0, 1, 10, 0), KEEP, entry(0, 2, 20, 0), DIFFER
        self.assertEqual(last(*calls), result(1, 20))

    def test_a_new_table_is_saved_in_its_place(self):
        calls = *THREE, KEEP, table(3, 4), DIFFER, entry(0, 1, 2, 9), DIFFER
        self.assertEqual(ask(*calls)[5:], [[0, 0, 0], [1], result(8, 2)])

    def test_a_refused_table_is_not_saved(self):
        self.assertEqual(ask(*THREE, KEEP, gone(1), table(4, 4), DIFFER)[5:], [[-1], result(1, 10)])


if __name__ == "__main__":
    unittest.main()
