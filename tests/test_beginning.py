import unittest

from matchtables.analyzer import answers
from tests.helper import (
    DIFFER, DROP, KEEP, LIST, MISSES, SHARES, SPARE, ask, doing, entry, find, gone, last, matters, other, overlap,
    result, table,
)


class Unchanging(list):
    """A list that fails when it is changed, be it for a while only."""

    def refuse(self, *arguments):
        raise AssertionError("the list of calls was changed")

    __setitem__ = __delitem__ = __iadd__ = __imul__ = refuse
    append = extend = insert = pop = remove = clear = sort = reverse = refuse


class Beginning(unittest.TestCase):
    def test_one_exact_key_of_8_bits(self):
        self.assertEqual(last(find(0)), [0, 0])
        self.assertEqual(last(find(255)), [0, 0])
        self.assertEqual(last(find(256)), [-1])
        self.assertEqual(last(find(1, 1)), [-1])
        self.assertEqual(last(find()), [-1])

    def test_an_entry_has_an_exact_key(self):
        self.assertEqual(last(entry(0, 5, 255, 0)), [1])
        self.assertEqual(last(entry(0, 5, 256, 0)), [-1])
        self.assertEqual(last(entry(0, 5, 255, 1)), [-1])
        self.assertEqual(last(entry(0, 5, 1, 0, 2, 0)), [-1])
        self.assertEqual(ask(entry(0, 5, 7, 0), find(7), find(8)), [[1], [1, 5], [0, 0]])

    def test_no_entries(self):
        self.assertEqual(last(SHARES), [0])
        self.assertEqual(last(MISSES), result(256, 0))
        self.assertEqual(last(gone(1)), [-2])
        self.assertEqual(last(matters(1)), [-2])

    def test_nothing_is_redundant_and_the_table_is_also_the_saved_one(self):
        self.assertEqual(ask(SPARE, DROP, DIFFER, KEEP, LIST), [[0], [0], [0, 0, 0], [0], [0, 0]])
        self.assertEqual(last(overlap(1, 1)), [-2])
        self.assertEqual(last(doing(0)), result(256, 0))
        self.assertEqual(last(entry(0, 1, 9, 0), DIFFER), result(1, 9))

    def test_the_default_action_is_0(self):
        self.assertEqual(ask(entry(0, 0, 9, 0), matters(1)), [[1], [0, 0, 0]])
        self.assertEqual(ask(entry(0, 1, 9, 0), matters(1)), [[1], result(1, 9)])


class Lists(unittest.TestCase):
    calls = table(2, 4, 3, 4) + other(9) + entry(3, 2, 1, 5, 2, 9) + SHARES + MISSES + matters(1) + find(1, 3) + gone(1)

    more = (other(1) + entry(0, 1, 9, 0) + entry(0, 0, 8, 0) + SPARE + DROP + overlap(2, 2) + doing(1) + KEEP + other(2)
            + DIFFER + LIST)

    def test_lists_have_nothing_to_do_with_each_other(self):
        fresh_calls = MISSES + find(3) + SHARES + SPARE + LIST + DIFFER + entry(0, 1, 9, 0) + DIFFER + overlap(1, 2)
        fresh = answers(list(fresh_calls))
        for calls in (self.calls, self.more, table(3, 4) + entry(0, 1, 0, 9) + KEEP):
            one = answers(list(calls))
            self.assertEqual(answers(list(fresh_calls)), fresh)
            self.assertEqual(answers(list(calls)), one)

    def test_the_list_handed_in_stays_as_it_was(self):
        for calls in (self.calls, self.more, table(4, 4) + entry(0, 0, 1) + gone(5) + find(300)):
            handed_in = list(calls)
            answers(handed_in)
            self.assertEqual(handed_in, calls)
            self.assertEqual(answers(Unchanging(calls)), answers(calls))

    def test_each_answer_has_its_length_ahead(self):
        given = answers(self.calls)
        self.assertEqual(given, [1, 8, 1, 0, 1, 1, 8, 1, 1, 5, 0, 0, 32, 1, 2, 5, 0, 0, 224, 0, 0,
                                 5, 0, 0, 32, 1, 2, 2, 1, 2, 1, 0])
        self.assertEqual(answers(find(256)), [1, -1])
        given = answers(self.more)
        self.assertEqual(given, [1, 0, 1, 1, 1, 2, 2, 1, 1, 1, 1, 4, 0, 0, 1, 8, 4, 0, 0, 255, 0, 1, 1, 1, 0,
                                 4, 0, 0, 255, 0, 7, 1, 2, 0, 0, 8, 0, 2])

    def test_all_answers_are_plain_whole_numbers(self):
        given = answers(self.calls + find(300) + matters(4) + self.more)
        self.assertIs(list, type(given))
        self.assertEqual({int}, {type(number) for number in given})

    def test_40_calls(self):
        self.assertEqual(answers(find(1) * 40), [2, 0, 0] * 40)


if __name__ == "__main__":
    unittest.main()
