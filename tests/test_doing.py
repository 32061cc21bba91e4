import unittest

from tests.helper import TOP, ask, count_in, doing, entry, gone, last, other, result, table


class Doing(unittest.TestCase):
    def test_the_action_of_some_entries(self):
        calls = table(3, 4), entry(1, 5, 2, 3), entry(1, 6, 4, 6), entry(1, 5, 9, 12)
        self.assertEqual(last(*calls, doing(5)), result(6, 2))
        self.assertEqual(last(*calls, doing(6)), result(3, 4))

    def test_only_where_they_are_found(self):
        calls = table(3, 4), entry(1, 6, 0, 3), entry(0, 5, 2, 9)
        self.assertEqual(last(*calls, doing(5)), result(6, 4))
        calls = table(3, 4), entry(1, 6, 0, 3), entry(0, 5, 2, 3)
        self.assertEqual(last(*calls, doing(5)), [0, 0, 0])

    def test_entries_that_meet_are_counted_once(self):
        calls = table(3, 4), entry(1, 5, 0, 3), entry(0, 5, 2, 9)
        self.assertEqual(last(*calls, doing(5)), result(10, 0))

    def test_the_default_action(self):
        calls = table(3, 4), entry(1, 5, 0, 3)
        self.assertEqual(last(*calls, doing(0)), result(12, 4))
        self.assertEqual(last(*calls, other(8), doing(8)), result(12, 4))
        self.assertEqual(last(*calls, other(8), doing(0)), [0, 0, 0])

    def test_the_default_action_and_entries_with_it(self):
        calls = table(3, 4), other(5), entry(1, 5, 2, 3), entry(1, 6, 0, 1), entry(0, 7, 3, 9)
        self.assertEqual(last(*calls, doing(5)), result(8, 2))
        self.assertEqual(last(*calls, gone(2), doing(5)), result(10, 0))

    def test_an_action_that_nothing_has(self):
        self.assertEqual(last(doing(1)), [0, 0, 0])
        self.assertEqual(last(table(3, 4), entry(1, 5, 0, 3), doing(4)), [0, 0, 0])
        self.assertEqual(last(table(3, 4), entry(1, 5, 0, 3), gone(1), doing(5)), [0, 0, 0])
        self.assertEqual(last(table(1, 4), entry(1, 5, 0, 0), doing(0)), [0, 0, 0])

    def test_0_and_the_highest(self):
        self.assertEqual(last(doing(0)), result(256, 0))
        self.assertEqual(last(doing(TOP)), [0, 0, 0])
        self.assertEqual(last(other(TOP), doing(TOP)), result(256, 0))
        self.assertEqual(last(other(TOP), entry(0, 0, 9, 0), doing(0)), result(1, 9))
        self.assertEqual(last(entry(0, TOP, 9, 0), doing(TOP)), result(1, 9))

    def test_all_actions_together_are_all_key_values(self):
        calls = table(3, 4, 1, 4), entry(1, 1, 2, 9, 8, 1), entry(2, 2, 5, 12, 0, 0), entry(0, 3, 0, 15, 12, 2)
        answered = ask(*calls, doing(0), doing(1), doing(2), doing(3))[4:]
        self.assertEqual(answered, [result(84, 0, 0), result(24, 2, 8), result(128, 5, 0), result(20, 0, 12)])
        self.assertEqual(sum(map(count_in, answered)), 256)


if __name__ == "__main__":
    unittest.main()
