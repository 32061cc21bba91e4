import unittest

from tests.helper import MISSES, SHARES, TOP, ask, entry, find, gone, last, matters, result, shares_answer, table


class Good(unittest.TestCase):
    def numbers_match(self, keys, numbers, values):
        """Check that just these values of a single key match."""
        kind, width = keys
        calls = [find(value) for value in range(1 << width)]
        found = []
        for at in range(0, len(calls), 32):
            found += ask(table(*keys), entry(0, 5, *numbers), *calls[at:at + 32])[2:]
        self.assertEqual([value for value, answer in enumerate(found) if answer == [1, 5]], values)
        self.assertEqual([value for value, answer in enumerate(found) if answer != [0, 0]], values)
        share = result(len(values), values[0])
        self.assertEqual(ask(table(*keys), entry(0, 5, *numbers), SHARES)[2], shares_answer([(1, share)]))

    def test_exact(self):
        self.numbers_match((0, 4), (0, 0), [0])
        self.numbers_match((0, 4), (9, 0), [9])
        self.numbers_match((0, 4), (15, 0), [15])

    def test_prefix(self):
        self.numbers_match((1, 4), (8, 2), [8, 9, 10, 11])
        self.numbers_match((1, 4), (7, 4), [7])
        self.numbers_match((1, 4), (0, 0), list(range(16)))
        self.numbers_match((1, 6), (32, 1), list(range(32, 64)))

    def test_prefix_with_bits_behind_its_length(self):
        self.numbers_match((1, 4), (11, 2), [8, 9, 10, 11])
        self.numbers_match((1, 4), (15, 0), list(range(16)))
        self.numbers_match((1, 4), (5, 1), list(range(8)))

    def test_mask(self):
        self.numbers_match((2, 4), (9, 9), [9, 11, 13, 15])
        self.numbers_match((2, 4), (0, 0), list(range(16)))
        self.numbers_match((2, 4), (6, 15), [6])
        self.numbers_match((2, 4), (0, 5), [0, 2, 8, 10])

    def test_mask_with_bits_of_the_value_where_it_has_zeros(self):
        self.numbers_match((2, 4), (15, 9), [9, 11, 13, 15])
        self.numbers_match((2, 4), (15, 0), list(range(16)))
        self.numbers_match((2, 4), (10, 5), [0, 2, 8, 10])

    def test_range(self):
        self.numbers_match((3, 4), (3, 6), [3, 4, 5, 6])
        self.numbers_match((3, 4), (0, 15), list(range(16)))
        self.numbers_match((3, 4), (15, 15), [15])
        self.numbers_match((3, 4), (0, 0), [0])

    def test_all_keys_have_to_match(self):
        calls = table(0, 4, 1, 4, 3, 4), entry(0, 5, 3, 0, 8, 1, 2, 4)
        for values, found in (
            ((3, 8, 2), [1, 5]), ((3, 15, 4), [1, 5]), ((2, 8, 2), [0, 0]),
            ((3, 7, 2), [0, 0]), ((3, 8, 1), [0, 0]), ((3, 8, 5), [0, 0]),
        ):
            self.assertEqual(last(*calls, find(*values)), found)

    def test_numbers_from_1_on(self):
        calls = [table(0, 4)] + [entry(0, 0, value, 0) for value in range(8)]
        self.assertEqual(ask(*calls)[1:], [[number] for number in range(1, 9)])

    def test_widest_numbers(self):
        self.assertEqual(last(table(0, 32), entry(0, TOP, TOP, 0)), [1])
        self.assertEqual(last(table(1, 32), entry(0, TOP, TOP, 32)), [1])
        self.assertEqual(last(table(2, 32), entry(0, TOP, TOP, TOP)), [1])
        self.assertEqual(last(table(3, 32), entry(0, TOP, TOP, TOP)), [1])
        self.assertEqual(last(table(0, 32), entry(0, TOP, TOP, 0), find(TOP)), [1, TOP])


class Refused(unittest.TestCase):
    def refused(self, keys, *key_numbers):
        with self.subTest(keys=keys, key_numbers=key_numbers):
            self.assertEqual(ask(table(*keys), entry(0, 1, *key_numbers), SHARES)[1:], [[-1], [0]])

    def test_how_many_numbers(self):
        for numbers in ([], [1], [1, 0, 1], [1, 0, 1, 0]):
            for kind in range(4):
                self.refused((kind, 4), *numbers)
        for count in (0, 1, 2, 3, 5, 6, 7, 8, 10):
            self.refused((0, 4, 0, 4), *[0] * count)
        for count in (0, 1, 2, 4, 5, 7, 8, 10):
            self.refused((0, 4, 0, 4, 0, 4), *[0] * count)

    def test_exact(self):
        self.refused((0, 4), 16, 0)
        self.refused((0, 1), 2, 0)
        self.refused((0, 4), TOP, 0)
        self.refused((0, 4), 3, 1)
        self.refused((0, 4), 3, 3)
        self.refused((0, 32), 3, TOP)

    def test_prefix(self):
        self.refused((1, 4), 16, 0)
        self.refused((1, 4), 16, 4)
        self.refused((1, 4), 0, 5)
        self.refused((1, 32), 0, 33)
        self.refused((1, 1), 0, 2)
        self.refused((1, 4), 0, TOP)

    def test_mask(self):
        self.refused((2, 4), 16, 0)
        self.refused((2, 4), 0, 16)
        self.refused((2, 4), 31, 31)
        self.refused((2, 31), 0, 1 << 31)

    def test_range(self):
        self.refused((3, 4), 0, 16)
        self.refused((3, 4), 16, 16)
        self.refused((3, 4), 16, 3)
        self.refused((3, 4), 4, 3)
        self.refused((3, 32), TOP, 0)

    def test_in_any_key(self):
        for wrong in ((16, 0), (3, 1)):
            self.refused((0, 4, 0, 4, 0, 4), *wrong, 0, 0, 0, 0)
            self.refused((0, 4, 0, 4, 0, 4), 0, 0, *wrong, 0, 0)
            self.refused((0, 4, 0, 4, 0, 4), 0, 0, 0, 0, *wrong)
        self.refused((0, 3, 1, 4, 2, 5), 8, 0, 8, 4, 8, 8)
        self.refused((0, 3, 1, 4, 2, 5), 7, 0, 8, 5, 8, 8)
        self.refused((0, 3, 1, 4, 2, 5), 7, 0, 8, 4, 8, 32)
        self.assertEqual(last(table(0, 3, 1, 4, 2, 5), entry(0, 1, 7, 0, 8, 4, 8, 8)), [1])

    def test_priority(self):
        self.assertEqual(last(entry(65535, 1, 0, 0)), [1])
        self.assertEqual(last(entry(65536, 1, 0, 0)), [-1])
        self.assertEqual(last(entry(TOP, 1, 0, 0)), [-1])

    def test_a_refused_entry_takes_no_number(self):
        calls = entry(65536, 1, 0, 0), entry(0, 1, 0, 1), entry(0, 1, 0, 0), entry(0, 1, 0, 0), entry(0, 1, 1, 0)
        self.assertEqual(ask(*calls), [[-1], [-1], [1], [-4], [2]])


class Twice(unittest.TestCase):
    def test_same_key_numbers_and_priority(self):
        self.assertEqual(last(entry(3, 1, 9, 0), entry(3, 1, 9, 0)), [-4])
        self.assertEqual(last(entry(3, 1, 9, 0), entry(3, 2, 9, 0)), [-4])
        keys = table(1, 4, 2, 4, 3, 4)
        first = entry(3, 1, 8, 2, 5, 7, 1, 2)
        self.assertEqual(last(keys, first, entry(0, 0, 0, 0, 0, 0, 0, 0), first), [-4])

    def test_another_priority_or_another_number(self):
        keys = table(1, 4, 2, 4, 3, 4)
        first = entry(3, 1, 8, 2, 5, 7, 1, 2)
        self.assertEqual(last(keys, first, entry(2, 1, 8, 2, 5, 7, 1, 2)), [2])
        for at in range(6):
            numbers = [8, 2, 5, 7, 1, 2]
            numbers[at] += 1
            self.assertEqual(last(keys, first, entry(3, 1, *numbers)), [2])

    def test_numbers_that_match_the_same_values_are_not_the_same_numbers(self):
        self.assertEqual(last(table(1, 4), entry(3, 1, 8, 2), entry(3, 1, 9, 2)), [2])
        self.assertEqual(last(table(2, 4), entry(3, 1, 8, 8), entry(3, 1, 9, 8)), [2])

    def test_an_entry_that_is_gone_may_come_again(self):
        self.assertEqual(last(entry(3, 1, 9, 0), gone(1), entry(3, 1, 9, 0)), [2])


class Full(unittest.TestCase):
    eight = [table(0, 4)] + [entry(5, 1, value, 0) for value in range(8)]

    def test_a_ninth_entry(self):
        self.assertEqual(last(*self.eight), [8])
        self.assertEqual(last(*self.eight, entry(5, 1, 8, 0)), [-5])
        self.assertEqual(last(*self.eight, gone(3), entry(5, 1, 8, 0)), [9])
        self.assertEqual(last(*self.eight, gone(3), entry(5, 1, 8, 0), entry(5, 1, 9, 0)), [-5])
        self.assertEqual(ask(*self.eight, entry(5, 1, 8, 0), MISSES)[10], result(8, 8))

    def test_wrong_numbers_come_ahead(self):
        for wrong in (entry(5, 1), entry(5, 1, 16, 0), entry(5, 1, 0, 1), entry(65536, 1, 0, 0)):
            self.assertEqual(last(*self.eight, wrong), [-1])

    def test_twice_comes_ahead_of_full(self):
        self.assertEqual(last(*self.eight, entry(5, 1, 7, 0)), [-4])
        self.assertEqual(last(*self.eight, entry(4, 1, 7, 0)), [-5])

    def test_the_eighth_matters(self):
        self.assertEqual(last(*self.eight, matters(8)), result(1, 7))


if __name__ == "__main__":
    unittest.main()
