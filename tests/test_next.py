import unittest

from tests.helper import (
    HIGHEST, LAST_TIME, LOWEST, add, ask, at, begin, ended, go, goes, hand, last, line, over, tail,
    the_channel, the_task, thrown, whole,
)


def sleeping(*pairs):
    """Calls: tasks, each with how long it sleeps from time 0."""
    calls = []
    for task, long in pairs:
        calls += add(task) + go() + at(task, 47, whole(long))
    return calls


class Answers(unittest.TestCase):
    def test_0_the_rows_first_goes(self):
        self.assertEqual(tail(3, begin(30), add(8), add(3), go(), over(8), go()),
                         [goes(8, 30), [0, 0, 0], goes(3, 30)])

    def test_0_does_not_ask_where_nobody_waits_for_a_time(self):
        self.assertEqual(last(add(8), go(clock=[5, 6])), goes(8))

    def test_0_asks_where_somebody_waits_for_a_time(self):
        self.assertEqual(last(sleeping((1, 50)), add(8), go(clock=[49, 50])), goes(8, asked=1))

    def test_1_while_a_task_goes(self):
        self.assertEqual(tail(3, add(8), add(9), go(), go(clock=[5]), over(8), go()),
                         [[0, 1, 0], [0, 0, 0], goes(9)])

    def test_1_while_a_task_spawns(self):
        self.assertEqual(tail(2, add(8), add(9), go(), at(8, 41), go(), go()), [[0, 1, 0], [0, 1, 0]])

    def test_1_does_not_ask_and_wakes_nobody(self):
        answered = tail(3, sleeping((1, 50)), add(8), go(), go(clock=[60]), over(8), go(clock=[55]))
        self.assertEqual(answered, [[0, 1, 0], [0, 0, 0], goes(8, given=[hand(1)], asked=1)])

    def test_1_does_not_move_the_clock(self):
        answered = last(sleeping((1, 50)), add(8), go(), go(clock=[60]), ended(8, [0]), go(clock=[49]))
        self.assertEqual(answered, [1, 2, 0, 50])

    def test_1_while_a_task_spawns_wakes_nobody(self):
        answered = last(sleeping((1, 50)), add(8), go(), at(8, 41), go(clock=[60]))
        self.assertEqual(answered, [0, 1, 0])

    def test_2_tells_the_first_time(self):
        calls = sleeping((1, 50), (2, 30), (3, 40))
        self.assertEqual(tail(2, calls, go(clock=[29]), go()), [[1, 2, 0, 30], [1, 2, 0, 30]])

    def test_2_tells_the_first_time_that_is_left(self):
        calls = sleeping((1, 50), (2, 30))
        answered = tail(3, calls, go(clock=[30]), ended(2, [0]), go(clock=[49]))
        self.assertEqual(answered, [goes(2, given=[hand(2)], asked=1), [0, 0, 0], [1, 2, 0, 50]])

    def test_2_where_others_wait_for_no_time(self):
        calls = line(add(7), go(), at(7, 46, the_task(7)), add(1), go(), at(7, 46, the_task(1)))
        self.assertEqual(last(calls, go(), at(1, 47, whole(4)), go(clock=[1])), [1, 2, 0, 4])

    def test_3_where_there_are_none(self):
        self.assertEqual(ask(go(clock=[5])), [[0, 3, 0]])

    def test_3_where_all_have_ended(self):
        answered = tail(1, add(1), add(2), go(), ended(1, [0]), go(), thrown(2, [0]), go(clock=[5]))
        self.assertEqual(answered, [[0, 3, 0]])

    def test_4_where_one_waits_to_receive(self):
        calls = line(add(1), go(), at(1, 43, whole(0)), go())
        self.assertEqual(last(calls, at(1, 45, the_channel(0)), go(clock=[5])), [0, 4, 0])

    def test_4_where_one_waits_to_send(self):
        calls = line(add(1), go(), at(1, 43, whole(0)), go())
        self.assertEqual(last(calls, at(1, 44, the_channel(0), [5]), go()), [0, 4, 0])

    def test_4_where_two_wait_for_one_another(self):
        calls = line(add(1), add(2), go(), at(1, 46, the_task(2)), go(), at(2, 46, the_task(1)))
        self.assertEqual(last(calls, go()), [0, 4, 0])

    def test_4_where_some_have_ended(self):
        calls = line(add(1), go(), at(1, 43, whole(0)), add(2), go(), at(1, 45, the_channel(0)), go())
        self.assertEqual(last(calls, ended(2, [0]), go()), [0, 4, 0])


class Woken(unittest.TestCase):
    def test_at_the_very_time(self):
        self.assertEqual(tail(2, sleeping((1, 50)), go(clock=[49]), go(clock=[50])),
                         [[1, 2, 0, 50], goes(1, given=[hand(1)], asked=1)])

    def test_by_their_times(self):
        calls = sleeping((1, 50), (2, 30), (3, 40), (4, 60))
        self.assertEqual(last(calls, go(clock=[50])),
                         goes(2, given=[hand(2), hand(3), hand(1)], asked=1))

    def test_of_one_time_by_their_numbers(self):
        calls = sleeping((9, 30), (2, 30), (11, 30), (5, 20))
        self.assertEqual(last(calls, go(clock=[30])),
                         goes(5, given=[hand(5), hand(2), hand(9), hand(11)], asked=1))

    def test_in_the_row_as_they_are_told(self):
        calls = sleeping((9, 30), (2, 30), (5, 20))
        answered = tail(6, calls, go(clock=[31]), over(5), go(), over(2), go(), over(9))
        self.assertEqual(answered[0::2], [goes(5, given=[hand(5), hand(2), hand(9)], asked=1), goes(2), goes(9)])

    def test_behind_those_that_are_ready(self):
        answered = tail(3, sleeping((1, 50)), add(8), go(clock=[50]), over(8), go())
        self.assertEqual(answered, [goes(8, given=[hand(1)], asked=1), [0, 0, 0], goes(1)])

    def test_only_once(self):
        answered = tail(2, sleeping((1, 50)), go(clock=[50]), over(1), go(clock=[60]))
        self.assertEqual(answered, [[0, 0, 0], goes(1)])

    def test_not_while_the_time_has_not_come(self):
        calls = sleeping((1, 50), (2, 51))
        self.assertEqual(last(calls, go(clock=[50])), goes(1, given=[hand(1)], asked=1))

    def test_only_one_answer_of_the_clock_is_used(self):
        self.assertEqual(last(sleeping((1, 50)), go(clock=[3, 50, 60])), [1, 2, 0, 50])

    def test_only_those_who_wait_for_a_time(self):
        calls = line(add(3), go(), at(3, 43, whole(0)), go(), at(3, 45, the_channel(0)), sleeping((1, 5)))
        self.assertEqual(last(calls, go(clock=[9])), goes(1, given=[hand(1)], asked=1))


class TheClock(unittest.TestCase):
    def later(self, *clocks):
        """What time the clock is at, after next was called with these."""
        calls = sleeping((1, LAST_TIME))
        for clock in clocks:
            calls = calls + go(clock)
        calls = calls + add(2) + go() + at(2, 47, whole(7), clock=[LOWEST]) + go(clock=[LOWEST])
        return last(calls)[-1] - 7

    def test_goes_on(self):
        self.assertEqual(self.later([5]), 5)
        self.assertEqual(self.later([5], [9]), 9)

    def test_stands(self):
        self.assertEqual(self.later([5], [5]), 5)

    def test_goes_back(self):
        self.assertEqual(self.later([5], [4]), 5)
        self.assertEqual(self.later([5], [4], [6]), 6)

    def test_is_below_0(self):
        self.assertEqual(self.later([-1]), 0)
        self.assertEqual(self.later([LOWEST]), 0)
        self.assertEqual(self.later([5], [-5]), 5)

    def test_is_used_up(self):
        self.assertEqual(self.later([]), 0)
        self.assertEqual(self.later([5], []), 5)

    def test_is_above_the_last_time(self):
        for reply in (LAST_TIME, LAST_TIME + 1, HIGHEST):
            answered = tail(3, sleeping((1, LAST_TIME)), go(clock=[LAST_TIME - 1]), go(clock=[reply]), over(1))
            self.assertEqual(answered[0], [1, 2, 0, LAST_TIME])
            self.assertEqual(answered[1], goes(1, given=[hand(1)], asked=1))

    def test_is_held_to_the_last_time(self):
        calls = line(sleeping((1, 5)), go(clock=[HIGHEST]), at(1, 47, whole(5), clock=[LAST_TIME]))
        self.assertEqual(last(calls), [1, 0, 1] + hand(1))

    def test_goes_back_and_wakes_by_the_last_time(self):
        calls = line(sleeping((1, 50)), add(2), go(clock=[40]), at(2, 47, whole(0), clock=[50]))
        self.assertEqual(last(calls, go(clock=[3])), goes(2, given=[hand(1)], asked=1))

    def test_is_used_up_and_wakes_by_the_last_time(self):
        calls = line(sleeping((1, 50)), add(2), go(clock=[40]), at(2, 47, whole(0), clock=[50]))
        self.assertEqual(last(calls, go()), goes(2, given=[hand(1)], asked=1))

    def test_each_call_has_a_list_of_its_own(self):
        self.assertEqual(tail(2, sleeping((1, 50)), go(clock=[4, 50]), go(clock=[5])),
                         [[1, 2, 0, 50], [1, 2, 0, 50]])


if __name__ == "__main__":
    unittest.main()
