import unittest

from tests.helper import (
    EXACT, MASK, PREFIX, RANGE, TOP, ask, entry, gone, last, overlap, result, table,
)


class Overlap(unittest.TestCase):
    def both(self, layout, one, two):
        """The answer for two entries with these key numbers, which are asked for both ways round."""
        calls = table(*layout), entry(1, 5, *one), entry(0, 6, *two)
        answered = ask(*calls, overlap(1, 2), overlap(2, 1))[3:]
        self.assertEqual(answered[0], answered[1])
        return answered[0]

    def test_two_that_meet(self):
        self.assertEqual(self.both((RANGE, 4), (2, 9), (7, 12)), result(3, 7))
        self.assertEqual(self.both((RANGE, 4), (2, 9), (9, 12)), result(1, 9))
        self.assertEqual(self.both((RANGE, 4), (0, 15), (3, 4)), result(2, 3))
        self.assertEqual(self.both((PREFIX, 4), (8, 1), (12, 2)), result(4, 12))
        self.assertEqual(self.both((MASK, 4), (8, 8), (1, 1)), result(4, 9))
        self.assertEqual(self.both((EXACT, 4, RANGE, 4), (3, 0, 0, 4), (3, 0, 2, 9)), result(3, 3, 2))

    def test_two_that_do_not(self):
        self.assertEqual(self.both((RANGE, 4), (2, 8), (9, 12)), [0, 0, 0])
        self.assertEqual(self.both((EXACT, 4), (2, 0), (3, 0)), [0, 0, 0])
        self.assertEqual(self.both((PREFIX, 4), (8, 1), (4, 2)), [0, 0, 0])
        self.assertEqual(self.both((MASK, 4), (8, 8), (1, 9)), [0, 0, 0])

    def test_one_key_alone_keeps_them_apart(self):
        self.assertEqual(self.both((RANGE, 4, RANGE, 4), (0, 15, 0, 7), (0, 15, 8, 15)), [0, 0, 0])
        self.assertEqual(self.both((RANGE, 4, RANGE, 4), (0, 7, 0, 15), (8, 15, 0, 15)), [0, 0, 0])

    def test_the_same_key_numbers(self):
        self.assertEqual(self.both((RANGE, 4), (2, 9), (2, 9)), result(8, 2))

    def test_an_entry_with_itself(self):
        self.assertEqual(last(table(RANGE, 4), entry(1, 5, 2, 9), overlap(1, 1)), result(8, 2))
        self.assertEqual(last(table(PREFIX, 32), entry(1, 5, 0, 0), overlap(1, 1)), result(1 << 32, 0))
        self.assertEqual(last(entry(1, 5, 7, 0), overlap(1, 1)), result(1, 7))

    def test_whichever_entry_is_found_there(self):
        calls = table(RANGE, 4), entry(1, 5, 2, 9), entry(0, 6, 7, 12), entry(9, 7, 0, 15), entry(8, 5, 8, 8)
        self.assertEqual(last(*calls, overlap(1, 2)), result(3, 7))
        self.assertEqual(last(*calls, overlap(2, 2)), result(6, 7))
        self.assertEqual(last(*calls, overlap(3, 2)), result(6, 7))
        self.assertEqual(last(*calls, overlap(4, 2)), result(1, 8))

    def test_the_widest(self):
        wide = (RANGE, 32, MASK, 32, PREFIX, 32)
        share = result((1 << 96) - (1 << 64), 1, 0, 0)
        self.assertEqual(self.both(wide, (0, TOP, 0, 0, 0, 0), (1, TOP, 0, 0, 0, 0)), share)
        share = result(1 << 28, TOP, 15, TOP)
        self.assertEqual(self.both(wide, (TOP, TOP, 6, 6, TOP, 32), (5, TOP, 9, 9, 0, 0)), share)


class Refused(unittest.TestCase):
    def test_one_or_both_do_not_exist(self):
        calls = entry(0, 1, 7, 0), entry(0, 1, 8, 0), entry(0, 1, 9, 0), gone(2)
        for number in (0, 2, 4, TOP):
            for one, two in ((number, 1), (1, number), (number, number), (number, 2)):
                self.assertEqual(last(*calls, overlap(one, two)), [-2])
        self.assertEqual(last(*calls, overlap(1, 3)), [0, 0, 0])

    def test_no_entries(self):
        self.assertEqual(last(overlap(1, 1)), [-2])
        self.assertEqual(last(overlap(0, 0)), [-2])


if __name__ == "__main__":
    unittest.main()
