import unittest

from tests.helper import (
    DIFFER, DROP, KEEP, LIST, MISSES, SHARES, SPARE, TOP, ask, doing, entry, find, gone, last, matters, other, result,
    shares_answer, table,
)

# Of these, 5, 3 and 2 are redundant.
FIVE = (
    table(3, 4), entry(2, 5, 0, 3), entry(0, 5, 2, 3), entry(1, 0, 12, 15), entry(1, 6, 5, 7), entry(0, 9, 6, 7),
)


class Drop(unittest.TestCase):
    def test_the_count_of_those_that_remain(self):
        self.assertEqual(ask(*FIVE, SPARE, DROP)[6:], [[3, 5, 3, 2], [2]])
        self.assertEqual(last(entry(0, 0, 7, 0), entry(0, 1, 8, 0), DROP), [1])

    def test_no_entries(self):
        self.assertEqual(ask(DROP, LIST), [[0], [0, 0]])

    def test_nothing_is_redundant(self):
        calls = table(3, 4), entry(1, 5, 2, 9), entry(0, 6, 0, 4)
        self.assertEqual(ask(*calls, DROP, LIST)[3:], [[2], last(*calls, LIST)])

    def test_all_are_redundant(self):
        calls = other(3), entry(0, 3, 7, 0), entry(0, 3, 8, 0)
        self.assertEqual(ask(*calls, DROP, LIST, MISSES, find(7))[3:], [[0], [0, 3], result(256, 0), [0, 3]])

    def test_what_remains_is_as_it_was(self):
        self.assertEqual(last(*FIVE, DROP, LIST), [2, 1, 2, 5, 0, 3, 4, 1, 6, 5, 7, 0])
        self.assertEqual(last(*FIVE, DROP, SHARES), shares_answer([(1, result(4, 0)), (4, result(3, 5))]))
        self.assertEqual(last(*FIVE, gone(1), DROP, LIST), [2, 2, 0, 5, 2, 3, 4, 1, 6, 5, 7, 0])

    def test_the_redundant_are_gone(self):
        for number in (2, 3, 5):
            self.assertEqual(ask(*FIVE, DROP, gone(number), matters(number))[7:], [[-2], [-2]])
        for number in (1, 4):
            self.assertEqual(last(*FIVE, DROP, gone(number)), [1])

    def test_the_action_is_the_same_everywhere(self):
        values = [find(value) for value in range(16)]
        before = [answer[1] for answer in ask(*FIVE, *values)[6:]]
        self.assertEqual([answer[1] for answer in ask(*FIVE, DROP, *values)[7:]], before)
        self.assertEqual(ask(*FIVE, KEEP, DROP, DIFFER)[7:], [[2], [0, 0, 0]])
        for action in (0, 5, 6, 9):
            self.assertEqual(last(*FIVE, DROP, doing(action)), last(*FIVE, doing(action)))

    def test_nothing_is_redundant_afterwards(self):
        self.assertEqual(ask(*FIVE, DROP, SPARE, DROP, DROP)[7:], [[0], [2], [2]])

    def test_numbers_are_not_used_again(self):
        self.assertEqual(last(*FIVE, DROP, entry(1, 1, 9, 9)), [6])
        self.assertEqual(last(*FIVE, DROP, entry(0, 5, 2, 3)), [6])

    def test_there_is_room_again(self):
        calls = [entry(0, 0, value, 0) for value in range(8)]
        self.assertEqual(ask(*calls, entry(0, 1, 9, 0), DROP, entry(0, 1, 9, 0))[8:], [[-5], [0], [9]])


class State(unittest.TestCase):
    def test_the_saved_table_stays(self):
        # What is saved still has entry 1, as the default action is another one by then.
        calls = entry(0, 0, 7, 0), KEEP, DROP, other(5), DIFFER
        self.assertEqual(last(*calls), result(256, 0))
        calls = entry(0, 0, 7, 0), KEEP, DROP, entry(0, 5, 7, 0), other(0), DIFFER
        self.assertEqual(last(*calls), result(1, 7))
        calls = entry(0, 1, 7, 0), KEEP, entry(1, 0, 7, 0), gone(1), DROP, DIFFER
        self.assertEqual(ask(*calls)[-2:], [[0], result(1, 7)])

    def test_it_saves_nothing(self):
        self.assertEqual(ask(entry(0, 1, 7, 0), entry(0, 0, 8, 0), DROP, DIFFER)[2:], [[1], result(1, 7)])

    def test_the_default_action_stays(self):
        self.assertEqual(last(other(TOP), entry(0, TOP, 7, 0), DROP, find(7)), [0, TOP])
        self.assertEqual(last(*FIVE, DROP, find(12)), [0, 0])

    def test_by_the_default_action_of_now(self):
        calls = entry(0, 0, 7, 0), entry(0, 1, 8, 0)
        self.assertEqual(ask(*calls, other(1), DROP, LIST)[3:], [[1], [1, 1, 0, 0, 7, 0, 1]])


if __name__ == "__main__":
    unittest.main()
