import unittest

from tests.helper import HIGHEST, LOWEST, add, ask, ended, go, goes, over, tail, thrown


class Add(unittest.TestCase):
    def test_new_tasks_stand_at_the_rows_end(self):
        answered = ask(add(9), add(2), add(5), go(), over(9), go(), over(2), go(), over(5), go())
        self.assertEqual(answered[:3], [[0, 0]] * 3)
        self.assertEqual(answered[3::2], [goes(9), goes(2), goes(5), goes(9)])

    def test_the_lowest_and_the_highest_number(self):
        self.assertEqual(tail(2, add(0), go()), [[0, 0], goes(0)])
        self.assertEqual(tail(2, add(2 ** 32 - 1), go()), [[0, 0], goes(2 ** 32 - 1)])

    def test_numbers_that_are_no_tasks(self):
        for number in (-1, 2 ** 32, LOWEST, HIGHEST, -2 ** 32):
            self.assertEqual(ask(add(number), go()), [[0, -8], [0, 3, 0]])

    def test_known_while_ready(self):
        self.assertEqual(ask(add(4), add(4), go(), over(4), go()),
                         [[0, 0], [0, -3], goes(4), [0, 0, 0], goes(4)])

    def test_known_while_going(self):
        self.assertEqual(tail(2, add(4), go(), add(4), go()), [[0, -3], [0, 1, 0]])

    def test_known_when_ended(self):
        self.assertEqual(tail(2, add(4), go(), ended(4, [1]), add(4), go()), [[0, -3], [0, 3, 0]])
        self.assertEqual(tail(2, add(4), go(), thrown(4, [1]), add(4), go()), [[0, -3], [0, 3, 0]])

    def test_added_while_another_goes(self):
        answered = tail(3, add(4), go(), add(1), over(4), go())
        self.assertEqual(answered, [[0, 0], [0, 0, 0], goes(1)])

    def test_the_clock_is_not_asked(self):
        self.assertEqual(ask(add(4, [5, 6]), add(4, [7]), add(-1, [8])), [[0, 0], [0, -3], [0, -8]])


if __name__ == "__main__":
    unittest.main()
