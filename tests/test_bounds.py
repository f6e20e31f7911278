"""The bounds that a line of 400 calls can't reach, on the parts below `answers`."""

import unittest

from turntasks.calls import answer_add, answer_next, answer_ran
from turntasks.held import Held
from turntasks.times import Clock


class Tasks(unittest.TestCase):
    def setUp(self):
        self.held = Held()
        for number in range(1000):
            self.assertEqual(answer_add(self.held, number), [0])

    def test_the_1001st_is_refused(self):
        self.assertEqual(answer_add(self.held, 1000), [-5])
        self.assertNotIn(1000, self.held.tasks)
        self.assertEqual(len(self.held.row), 1000)

    def test_one_that_is_known_is_told_first(self):
        self.assertEqual(answer_add(self.held, 999), [-3])

    def test_a_number_that_is_none_is_told_first(self):
        self.assertEqual(answer_add(self.held, -1), [-8])
        self.assertEqual(answer_add(self.held, 2 ** 32), [-8])

    def test_those_that_have_ended_count(self):
        self.assertEqual(answer_next(self.held, Clock([])), [0, 0, 0, 1])
        self.assertEqual(answer_ran(self.held, 0, 1, 0, [[7]], Clock([])), [0, 0])
        self.assertEqual(answer_add(self.held, 1000), [-5])


class Channels(unittest.TestCase):
    def make(self, held):
        self.assertEqual(answer_next(held, Clock([])), [0, 0, 1, 1])
        return answer_ran(held, 1, 3, 43, [[2, 0]], Clock([]))

    def test_where_there_are_1000_it_is_tossed(self):
        held = Held()
        answer_add(held, 1)
        for number in range(1000):
            self.assertEqual(self.make(held), [0, 1, 0, 1, 2, 9, number])
        self.assertEqual(self.make(held), [0, 1, 1, 1, 2, 2, -1])
        self.assertEqual(len(held.channels), 1000)
        self.assertEqual(answer_next(held, Clock([])), [0, 0, 1, 1])
        self.assertEqual(answer_ran(held, 1, 3, 45, [[9, 1000]], Clock([])), [0, 1, 1, 1, 2, 2, -1])


if __name__ == "__main__":
    unittest.main()
