import unittest

from tests.helper import LAST_TIME, add, ask, at, begin, done, ended, go, goes, last, orders, tail, the_channel, whole


class Begin(unittest.TestCase):
    def test_steps_at_both_ends_are_taken(self):
        for steps in (1, 2, 99999, 100000):
            answered = ask(begin(steps), add(5), go())
            self.assertEqual(answered, [[0, 0], [0, 0], goes(5, steps)])

    def test_other_steps_are_refused(self):
        for steps in (0, -1, 100001, -2147483648, 2147483647):
            self.assertEqual(ask(begin(steps)), [[0, -8]])

    def test_steps_are_1_at_first(self):
        self.assertEqual(last(add(5), go()), goes(5, 1))

    def test_a_refusal_keeps_steps_tasks_and_channels(self):
        for steps in (0, -1, 100001):
            answered = tail(4, begin(7), add(3), go(), at(3, 43, whole(1)), add(4), begin(steps),
                            add(3), go(), at(3, 44, the_channel(0), [5]))
            self.assertEqual(answered, [[0, -8], [0, -3], goes(3, 7), done([0, 3, 1, 0])])

    def test_a_refusal_keeps_the_clock(self):
        answered = last(add(1), go(), at(1, 47, whole(0), clock=[50]), begin(0), go(),
                        at(1, 47, whole(5), clock=[20]), go(clock=[54]))
        self.assertEqual(answered, [1, 2] + orders() + [55])

    def test_tasks_are_cleared(self):
        self.assertEqual(tail(3, add(1), begin(4), go(), add(1), go()), [[0, 3, 0], [0, 0], goes(1, 4)])

    def test_one_that_goes_is_cleared(self):
        self.assertEqual(tail(2, add(1), go(), begin(4), go(), ended(1, [0])), [[0, 3, 0], [0, -8]])

    def test_one_that_spawns_is_cleared(self):
        self.assertEqual(last(add(1), go(), at(1, 41), begin(4), go()), [0, 3, 0])

    def test_one_that_waits_for_a_time_is_cleared(self):
        self.assertEqual(last(add(1), go(), at(1, 47, whole(9)), begin(4), go(clock=[100])), [0, 3, 0])

    def test_channels_are_cleared(self):
        answered = tail(3, add(1), go(), at(1, 43, whole(1)), begin(1), add(1), go(),
                        at(1, 45, the_channel(0)), go(), at(1, 43, whole(1)))
        self.assertEqual(answered, [done([1, 1, 2, 2, -1]), goes(1), done([0, 1, 2, 9, 0])])

    def test_the_clock_is_cleared(self):
        answered = tail(2, add(1), go(), at(1, 47, whole(0), clock=[LAST_TIME]), begin(1), add(1), go(),
                        at(1, 47, whole(3), clock=[4]), go(clock=[5]))
        self.assertEqual(answered, [done(asked=1), [1, 2, 0, 7]])


if __name__ == "__main__":
    unittest.main()
