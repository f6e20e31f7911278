"""The bounds that a line of 400 calls can't reach, on the parts below `answers`."""

import unittest

from turntasks.calls import answer_add, answer_channel, answer_next, answer_ran, answer_spawned, answer_state
from turntasks.calls import answer_stuck
from turntasks.held import Held
from turntasks.times import Clock


class Tasks(unittest.TestCase):
    def setUp(self):
        self.held = Held()
        for number in range(1000):
            self.assertEqual(answer_add(self.held, number), [0])

    def test_the_1001st_is_refused(self):
        self.assertEqual(answer_add(self.held, 1000), [-5])
        self.assertNotIn(1000, self.held.tasks)
        self.assertEqual(len(self.held.row), 1000)

    def test_one_that_is_known_is_told_first(self):
        self.assertEqual(answer_add(self.held, 999), [-3])

    def test_a_number_that_is_none_is_told_first(self):
        self.assertEqual(answer_add(self.held, -1), [-8])
        self.assertEqual(answer_add(self.held, 2 ** 32), [-8])

    def test_those_that_have_ended_count(self):
        self.assertEqual(answer_next(self.held, Clock([])), [0, 0, 0, 1])
        self.assertEqual(answer_ran(self.held, 0, 1, 0, [[7]], Clock([])), [0, 0])
        self.assertEqual(answer_add(self.held, 1000), [-5])


class Spawned(unittest.TestCase):
    def spawning(self, many):
        """So many tasks, numbered from 0 on, of which 0 spawns."""
        held = Held()
        for number in range(many):
            self.assertEqual(answer_add(held, number), [0])
        self.assertEqual(answer_next(held, Clock([])), [0, 0, 0, 1])
        self.assertEqual(answer_ran(held, 0, 3, 41, [], Clock([])), [0, 1, 2, 0])
        return held

    def test_the_1000th_is_taken(self):
        held = self.spawning(999)
        self.assertEqual(answer_spawned(held, 0, 2 ** 32 - 1), [0])
        self.assertEqual([task.number for task in held.row[-2:]], [0, 2 ** 32 - 1])
        self.assertEqual(answer_add(held, 1000), [-5])

    def test_the_1001st_is_refused(self):
        held = self.spawning(1000)
        self.assertEqual(answer_spawned(held, 0, 1000), [-5])
        self.assertEqual(answer_state(held, 0), [2, 0])
        self.assertEqual(answer_state(held, 1000), [-8])
        self.assertEqual(len(held.row), 999)
        self.assertEqual(answer_next(held, Clock([])), [1, 0])

    def test_other_refusals_are_told_first(self):
        held = self.spawning(1000)
        for number in (0, 1, 999):
            self.assertEqual(answer_spawned(held, 0, number), [-3])
        for number in (-2, 2 ** 32):
            self.assertEqual(answer_spawned(held, 0, number), [-8])
        self.assertEqual(answer_spawned(held, 1, 1000), [-8])
        self.assertEqual(answer_spawned(held, 1000, 1000), [-8])
        self.assertEqual(answer_state(held, 0), [2, 0])

    def test_where_no_thread_could_be_made_none_is_too_many(self):
        held = self.spawning(1000)
        self.assertEqual(answer_spawned(held, 0, -1), [0])
        self.assertEqual(held.row[-1].number, 0)


class Stuck(unittest.TestCase):
    def waiting(self, many):
        """1000 tasks, of which the first so many wait, each for the end of the one behind it or, the last, of 0."""
        held = Held()
        for number in range(1000):
            answer_add(held, number)
        for number in range(many):
            self.assertEqual(answer_next(held, Clock([])), [0, 0, number, 1])
            self.assertEqual(answer_ran(held, number, 3, 46, [[8, (number + 1) % 1000]], Clock([])), [0, 0])
        return held

    def test_a_ring_of_1000(self):
        told = [part for number in range(1000) for part in [number, 5, (number + 1) % 1000, 1]]
        self.assertEqual(answer_stuck(self.waiting(1000)), [1000] + told)

    def test_a_chain_of_999(self):
        told = [part for number in range(999) for part in [number, 5, number + 1, 0]]
        self.assertEqual(answer_stuck(self.waiting(999)), [999] + told)


class Channels(unittest.TestCase):
    def make(self, held):
        self.assertEqual(answer_next(held, Clock([])), [0, 0, 1, 1])
        return answer_ran(held, 1, 3, 43, [[2, 0]], Clock([]))

    def test_where_there_are_1000_it_is_tossed(self):
        held = Held()
        answer_add(held, 1)
        for number in range(1000):
            self.assertEqual(self.make(held), [0, 1, 0, 1, 2, 9, number])
        self.assertEqual(self.make(held), [0, 1, 1, 1, 2, 2, -1])
        self.assertEqual(len(held.channels), 1000)
        self.assertEqual(answer_channel(held, 999), [0, 0, 0, 0])
        self.assertEqual(answer_channel(held, 1000), [-4])
        self.assertEqual(answer_next(held, Clock([])), [0, 0, 1, 1])
        self.assertEqual(answer_ran(held, 1, 3, 45, [[9, 1000]], Clock([])), [0, 1, 1, 1, 2, 2, -1])


if __name__ == "__main__":
    unittest.main()
