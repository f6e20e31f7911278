import unittest

from tests.helper import (
    HIGHEST, LAST_TIME, LOWEST, add, ask, at, begin, channels, done, ended, go, goes, last, line, over, spawned,
    state, tail, the_channel, the_task, thrown, whole,
)


class State(unittest.TestCase):
    def test_0_ready(self):
        self.assertEqual(last(add(7), state(7)), [0, 0, 0])
        self.assertEqual(last(add(7), go(), over(7), state(7)), [0, 0, 0])
        self.assertEqual(last(add(7), go(), at(7, 42), state(7)), [0, 0, 0])

    def test_1_going(self):
        self.assertEqual(tail(2, add(7), add(8), go(), state(7), state(8)), [[0, 1, 0], [0, 0, 0]])

    def test_2_spawning(self):
        self.assertEqual(last(add(7), go(), at(7, 41), state(7)), [0, 2, 0])

    def test_3_sending_and_the_channel(self):
        for number in (0, 1, 2):
            self.assertEqual(last(channels(0, 0, 0), at(1, 44, the_channel(number), [50]), state(1)), [0, 3, number])

    def test_4_receiving_and_the_channel(self):
        for number in (0, 1, 2):
            self.assertEqual(last(channels(0, 5, 9), at(1, 45, the_channel(number)), state(1)), [0, 4, number])

    def test_5_waiting_for_an_end_and_the_task(self):
        for number in (0, 8, 2 ** 32 - 1):
            self.assertEqual(last(add(1), add(number), go(), at(1, 46, the_task(number)), state(1)), [0, 5, number])

    def test_6_waiting_for_a_time_and_the_time(self):
        for z, time in ((1, 11), (500, 510), (HIGHEST, LAST_TIME)):
            self.assertEqual(last(add(1), go(), at(1, 47, whole(z), clock=[10]), state(1)), [0, 6, time])

    def test_7_ended(self):
        self.assertEqual(last(add(1), go(), ended(1, [5, 6]), state(1)), [0, 7, 0])

    def test_8_thrown(self):
        self.assertEqual(last(add(1), go(), thrown(1, [5, 6]), state(1)), [0, 8, 0])

    def test_a_sender_whose_value_was_taken_is_ready(self):
        for room in (0, 1):
            full = [part for k in range(room) for part in at(1, 44, the_channel(1), [k]) + go()]
            calls = line(channels(0, room), full, add(2), at(1, 44, the_channel(1), [5]), go())
            self.assertEqual(tail(3, calls, state(1), at(2, 45, the_channel(1)), state(1))[0::2],
                             [[0, 3, 1], [0, 0, 0]])

    def test_a_receiver_that_was_handed_a_value_is_ready(self):
        calls = line(channels(0, 3), add(2), at(1, 45, the_channel(1)), go())
        self.assertEqual(tail(3, calls, state(1), at(2, 44, the_channel(1), [5]), state(1))[0::2],
                         [[0, 4, 1], [0, 0, 0]])

    def test_one_that_waited_for_an_end_is_ready(self):
        for end in (ended, thrown):
            calls = line(add(1), add(2), go(), at(1, 46, the_task(2)), go(), end(2, [5]))
            self.assertEqual(last(calls, state(1)), [0, 0, 0])

    def test_one_that_waited_for_a_time_is_ready(self):
        calls = line(add(1), add(2), go(), at(1, 47, whole(5)), go(clock=[5]))
        self.assertEqual(tail(2, calls, state(1), state(2)), [[0, 0, 0], [0, 1, 0]])

    def test_a_time_that_came_with_ran_alone_is_still_waited_for(self):
        calls = line(add(1), add(2), go(), at(1, 47, whole(5)), go(), at(2, 47, whole(0), clock=[9]))
        self.assertEqual(tail(2, calls, state(1), state(2)), [[0, 6, 5], [0, 0, 0]])

    def test_one_that_goes_again_waits_for_nothing(self):
        calls = line(add(1), go(), at(1, 47, whole(5)), go(clock=[5]))
        self.assertEqual(tail(3, calls, state(1), ended(1, [3]), state(1)), [[0, 1, 0], done(), [0, 7, 0]])

    def test_no_such_task(self):
        for number in (0, 2, -1, 2 ** 32 - 1, 2 ** 32, 2 ** 32 + 1, LOWEST, HIGHEST):
            self.assertEqual(last(add(1), state(number)), [0, -8])
            self.assertEqual(ask(state(number)), [[0, -8]])

    def test_none_is_left_after_begin(self):
        self.assertEqual(last(add(1), begin(1), state(1)), [0, -8])

    def test_the_lowest_and_the_highest_number(self):
        for number in (0, 2 ** 32 - 1):
            self.assertEqual(last(add(number), state(number)), [0, 0, 0])

    def test_the_clock_is_not_asked(self):
        calls = line(add(1), go(), at(1, 47, whole(5)))
        self.assertEqual(tail(4, calls, state(1, [5, 6]), state(2, [7]), go(), state(1, [5])),
                         [[0, 6, 5], [0, -8], [1, 2, 0, 5], [0, 6, 5]])

    def test_nothing_changes(self):
        calls = line(add(1), add(2), go(), at(1, 41), spawned(1, 3))
        answered = tail(6, calls, state(3), state(2), state(1), go(), over(2), go())
        self.assertEqual(answered[3:], [goes(2), done(), goes(1)])


if __name__ == "__main__":
    unittest.main()
