import unittest

from tests.helper import (
    HIGHEST, LOWEST, add, at, begin, done, ended, go, goes, hand, last, line, over, spawned, state, tail,
    the_task, thrown, whole,
)

# 1 spawns, 2 is ready, 3 has ended, 4 was thrown, 5 waits for the end of 2.
ONE_SPAWNS = line(add(3), add(4), add(5), add(1), add(2), go(), ended(3, [7]), go(), thrown(4, [7]), go(),
                  at(5, 46, the_task(2)), go(), at(1, 41))


class Spawned(unittest.TestCase):
    def refused(self, call, number):
        """The call is refused, and nothing changes: 1 goes on spawning, and nobody else stands in the row."""
        self.assertEqual(tail(7, ONE_SPAWNS, call, state(1), go(), spawned(1, -1), go(), over(2), go()),
                         [[0, number], [0, 2, 0], [0, 1, 0], [0, 0], goes(2), done(), goes(1)])

    def test_a_new_task_stands_behind_the_one_that_spawned_it(self):
        answered = tail(7, ONE_SPAWNS, spawned(1, 9), go(), over(2), go(), over(1), go(), over(9))
        self.assertEqual(answered, [[0, 0], goes(2), done(), goes(1), done(), goes(9), done()])

    def test_both_are_ready(self):
        self.assertEqual(tail(2, ONE_SPAWNS, spawned(1, 9), state(1), state(9)), [[0, 0, 0], [0, 0, 0]])

    def test_the_row_was_empty(self):
        answered = tail(4, add(1), go(), at(1, 41), spawned(1, 0), go(), over(1), go())
        self.assertEqual(answered, [[0, 0], goes(1), done(), goes(0)])

    def test_the_lowest_and_the_highest_number(self):
        for number in (0, 2 ** 32 - 1):
            answered = tail(6, ONE_SPAWNS, spawned(1, number), go(), over(2), go(), over(1), go())
            self.assertEqual([answered[0], answered[-1]], [[0, 0], goes(number)])

    def test_the_new_task_is_one_like_others(self):
        calls = line(begin(8), add(1), go(), at(1, 41), spawned(1, 9), go(), at(1, 46, the_task(9)), go())
        self.assertEqual(tail(2, calls, at(9, 41), spawned(9, 10))[1], [0, 0])
        self.assertEqual(tail(2, calls, ended(9, [5, 6]), add(9)), [done(hand(1, [5, 6])), [0, -3]])

    def test_no_thread_could_be_made(self):
        answered = tail(5, ONE_SPAWNS, spawned(1, -1), state(1), go(), over(2), go())
        self.assertEqual(answered, [[0, 0], [0, 0, 0], goes(2), done(), goes(1)])

    def test_no_thread_is_no_task(self):
        self.assertEqual(tail(3, add(1), go(), at(1, 41), spawned(1, -1), state(-1), go(), over(1), go())[0::2],
                         [goes(1), goes(1)])
        self.assertEqual(last(ONE_SPAWNS, spawned(1, -1), state(-1)), [0, -8])

    def test_it_can_spawn_again(self):
        calls = line(add(1), go(), at(1, 41), spawned(1, 2), go(), at(1, 41))
        answered = tail(6, calls, spawned(1, 3), go(), over(2), go(), over(1), go())
        self.assertEqual(answered, [[0, 0], goes(2), done(), goes(1), done(), goes(3)])

    def test_tasks_that_are_not_known(self):
        for number in (0, 9, -1, 2 ** 32, 2 ** 32 + 1, LOWEST, HIGHEST):
            for new in (9, -1, 1, -2):
                self.refused(spawned(number, new), -8)

    def test_tasks_that_are_not_spawning(self):
        for number in (2, 3, 4, 5):
            for new in (9, -1, 1, number, 2 ** 32):
                self.refused(spawned(number, new), -8)

    def test_one_that_goes_is_not_spawning(self):
        for new in (9, -1):
            self.assertEqual(tail(3, add(1), go(), spawned(1, new), state(1), over(1)), [[0, -8], [0, 1, 0], done()])

    def test_one_that_sleeps_is_not_spawning(self):
        calls = line(add(1), go(), at(1, 47, whole(6)))
        self.assertEqual(tail(2, calls, spawned(1, 9), state(1)), [[0, -8], [0, 6, 6]])

    def test_it_spawns_no_longer(self):
        for new in (9, -1):
            self.assertEqual(tail(2, ONE_SPAWNS, spawned(1, new), spawned(1, 10), state(10)), [[0, -8], [0, -8]])

    def test_numbers_that_are_no_tasks(self):
        for new in (-2, 2 ** 32, LOWEST, HIGHEST, -2 ** 32):
            self.refused(spawned(1, new), -8)

    def test_tasks_that_are_known(self):
        for new in (1, 2, 3, 4, 5):
            self.refused(spawned(1, new), -3)

    def test_after_a_refusal_a_new_task_is_taken(self):
        answered = tail(6, ONE_SPAWNS, spawned(1, 1), spawned(1, 9), go(), over(2), go(), over(1), go())[0::2]
        self.assertEqual(answered, [[0, 0], done(), done()])

    def test_the_clock_is_not_asked(self):
        for number, new, told in ((1, 9, 0), (1, -1, 0), (1, 2, -3), (1, -2, -8), (8, 9, -8)):
            self.assertEqual(last(ONE_SPAWNS, spawned(number, new, [50, 60])), [0, told])

    def test_the_clock_is_not_moved(self):
        calls = line(add(1), go(), at(1, 41), spawned(1, 9, [500]), go(), at(1, 47, whole(3), clock=[2]))
        self.assertEqual(last(calls, state(1)), [0, 6, 5])


if __name__ == "__main__":
    unittest.main()
