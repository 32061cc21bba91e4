import unittest

from tests.helper import (
    DROP, EXACT, KEEP, LIST, MASK, PREFIX, RANGE, TOP, ask, entry, gone, last, other, table,
)


class Listed(unittest.TestCase):
    def test_no_entries(self):
        self.assertEqual(last(LIST), [0, 0])
        self.assertEqual(last(other(TOP), LIST), [0, TOP])
        self.assertEqual(last(other(7), table(RANGE, 4), LIST), [0, 0])

    def test_an_entry(self):
        self.assertEqual(last(entry(65535, TOP, 255, 0), other(9), LIST), [1, 1, 65535, TOP, 255, 0, 9])
        self.assertEqual(last(entry(0, 0, 0, 0), LIST), [1, 1, 0, 0, 0, 0, 0])

    def test_two_key_numbers_for_each_key(self):
        calls = table(EXACT, 4, PREFIX, 5), entry(3, 5, 9, 0, 17, 5), entry(4, 6, 8, 0, 0, 0)
        self.assertEqual(last(*calls, LIST), [2, 1, 3, 5, 9, 0, 17, 5, 2, 4, 6, 8, 0, 0, 0, 0])
        calls = table(RANGE, 32, MASK, 32, PREFIX, 32), entry(3, 5, 1, TOP, 2, TOP - 1, TOP, 32)
        self.assertEqual(last(*calls, LIST), [1, 1, 3, 5, 1, TOP, 2, TOP - 1, TOP, 32, 0])

    def test_key_numbers_as_they_were_handed_in(self):
        calls = table(PREFIX, 4, MASK, 4), entry(3, 5, 15, 1, 15, 2), entry(3, 5, 7, 0, 9, 0)
        self.assertEqual(last(*calls, LIST), [2, 1, 3, 5, 15, 1, 15, 2, 2, 3, 5, 7, 0, 9, 0, 0])

    def test_in_the_order_in_which_they_were_added(self):
        calls = table(PREFIX, 4), entry(1, 5, 8, 1), entry(9, 5, 0, 0), entry(5, 5, 8, 4)
        self.assertEqual(last(*calls, LIST), [3, 1, 1, 5, 8, 1, 2, 9, 5, 0, 0, 3, 5, 5, 8, 4, 0])

    def test_behind_gone(self):
        calls = entry(1, 5, 1, 0), entry(2, 6, 2, 0), entry(3, 7, 3, 0), gone(2)
        self.assertEqual(last(*calls, LIST), [2, 1, 1, 5, 1, 0, 3, 3, 7, 3, 0, 0])
        self.assertEqual(last(*calls, entry(2, 6, 2, 0), LIST), [3, 1, 1, 5, 1, 0, 3, 3, 7, 3, 0, 4, 2, 6, 2, 0, 0])

    def test_behind_drop(self):
        calls = other(6), entry(1, 5, 1, 0), entry(2, 6, 2, 0), entry(3, 7, 3, 0), DROP
        self.assertEqual(last(*calls, LIST), [2, 1, 1, 5, 1, 0, 3, 3, 7, 3, 0, 6])

    def test_the_current_table_and_not_the_saved_one(self):
        self.assertEqual(last(entry(1, 5, 1, 0), KEEP, entry(2, 6, 2, 0), gone(1), other(4), LIST),
                         [1, 2, 2, 6, 2, 0, 4])

    def test_eight_entries_of_three_keys(self):
        calls, rows = [table(*[RANGE, 32] * 3)], []
        for at in range(8):
            numbers = [at, TOP - at] * 3
            calls.append(entry(at, TOP - at, *numbers))
            rows += [at + 1, at, TOP - at, *numbers]
        self.assertEqual(last(*calls, LIST), [8, *rows, 0])

    def test_a_refused_entry_is_not_there(self):
        calls = entry(1, 5, 1, 0), entry(1, 6, 1, 0), entry(65536, 5, 2, 0), entry(1, 5, 256, 0)
        self.assertEqual(last(*calls, LIST), [1, 1, 1, 5, 1, 0, 0])

    def test_twice(self):
        answered = ask(entry(1, 5, 1, 0), other(4), LIST, LIST)
        self.assertEqual(answered[2], answered[3])


if __name__ == "__main__":
    unittest.main()
