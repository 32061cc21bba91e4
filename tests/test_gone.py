import unittest

from tests.helper import MISSES, SHARES, ask, entry, find, gone, last, matters, other, result, shares_answer, table

THREE = entry(0, 1, 10, 0), entry(0, 2, 20, 0), entry(0, 3, 30, 0)


class Gone(unittest.TestCase):
    def test_the_count_of_those_that_remain(self):
        self.assertEqual(ask(*THREE, gone(2), gone(1), gone(3))[3:], [[2], [1], [0]])

    def test_just_that_entry_is_gone(self):
        left = shares_answer([(1, result(1, 10)), (3, result(1, 30))])
        self.assertEqual(ask(*THREE, gone(2), SHARES, find(20), find(30), MISSES)[4:],
                         [left, [0, 0], [3, 3], result(254, 0)])

    def test_what_it_hid_is_found(self):
        self.assertEqual(ask(entry(5, 1, 10, 0), entry(4, 2, 10, 0), find(10), gone(1), find(10))[2:],
                         [[1, 1], [1], [2, 2]])

    def test_no_such_entry(self):
        for number in (0, 4, 4294967295):
            self.assertEqual(last(*THREE, gone(number)), [-2])
        self.assertEqual(last(gone(1)), [-2])

    def test_gone_already(self):
        self.assertEqual(ask(*THREE, gone(2), gone(2))[3:], [[2], [-2]])

    def test_an_entry_of_the_table_before(self):
        self.assertEqual(last(*THREE, table(0, 8), gone(1)), [-2])

    def test_numbers_are_not_used_again(self):
        self.assertEqual(last(*THREE, gone(3), entry(0, 3, 30, 0)), [4])
        calls = *THREE, gone(1), gone(2), gone(3), entry(0, 3, 30, 0), SHARES
        self.assertEqual(ask(*calls)[6:], [[4], shares_answer([(4, result(1, 30))])])


class Other(unittest.TestCase):
    def test_sets_the_default_action(self):
        self.assertEqual(ask(other(7), find(3), other(4294967295), find(3), other(0), find(3)),
                         [[0], [0, 7], [0], [0, 4294967295], [0], [0, 0]])

    def test_where_an_entry_is_found_its_action_stays(self):
        self.assertEqual(ask(*THREE, other(7), find(20), find(21))[4:], [[2, 2], [0, 7]])

    def test_entries_with_that_action_do_not_matter(self):
        self.assertEqual(ask(*THREE, matters(2), other(2), matters(2), matters(1))[3:],
                         [result(1, 20), [0], [0, 0, 0], result(1, 10)])


if __name__ == "__main__":
    unittest.main()
