import unittest

from tests.helper import (
    HIGHEST, LAST_TIME, LOWEST, NOTHING, SELF, WRONG, add, at, channels, done, ended, go, goes, hand, last, line,
    over, spawn, tail, the_channel, the_task, thrown, toss, whole,
)


class At41And42(unittest.TestCase):
    def test_41_spawns(self):
        self.assertEqual(tail(2, add(1), add(2), go(), at(1, 41, clock=[5]), go()), [done(spawn(1)), [0, 1, 0]])

    def test_42_is_handed_nothing_and_is_ready(self):
        answered = tail(4, add(1), add(2), go(), at(1, 42, clock=[5]), go(), over(2), go())
        self.assertEqual(answered, [done(hand(1)), goes(2), [0, 0, 0], goes(1)])


class At43(unittest.TestCase):
    def test_channels_are_numbered_from_0_on(self):
        for room in (0, 1, 65535, 65536):
            answered = tail(3, add(1), go(), at(1, 43, whole(room)), go(), at(1, 43, whole(room)))
            self.assertEqual(answered, [done(hand(1, [9, 0])), goes(1), done(hand(1, [9, 1]))])

    def test_no_room_that_may_be(self):
        for value in (whole(-1), whole(65537), whole(LOWEST), whole(HIGHEST), [2], [2, 1, 0], [0], [9, 1], [8, 1],
                      [1, 2], [5] * 64):
            answered = tail(3, add(1), go(), at(1, 43, value), go(), at(1, 43, whole(1)))
            self.assertEqual(answered, [done(toss(1, WRONG)), goes(1), done(hand(1, [9, 0]))])

    def test_ready_at_the_rows_end(self):
        for value in (whole(1), whole(-1)):
            self.assertEqual(tail(3, add(1), add(2), go(), at(1, 43, value), go(), over(2), go())[0::2],
                             [goes(2), goes(1)])

    def test_the_clock_is_not_asked(self):
        self.assertEqual(last(add(1), go(), at(1, 43, whole(0), clock=[5]))[0], 0)


NO_CHANNELS = (the_channel(1), the_channel(-1), the_channel(LOWEST), the_channel(HIGHEST), [9], [9, 0, 0], [0],
               [2, 0], [8, 0], [8, 1], [0, 9], [9] * 64)


class At44(unittest.TestCase):
    def test_no_channel(self):
        for target in NO_CHANNELS:
            answered = tail(4, channels(3), add(2), at(1, 44, target, [5]), go(), over(2), go())
            self.assertEqual(answered, [done(toss(1, WRONG)), goes(2), [0, 0, 0], goes(1)])
        self.assertEqual(last(add(1), go(), at(1, 44, the_channel(0), [5])), done(toss(1, WRONG)))

    def test_no_channel_keeps_no_value(self):
        calls = line(channels(3), at(1, 44, the_channel(1), [5]), go())
        self.assertEqual(tail(2, calls, at(1, 45, the_channel(0)), go()), [done(), [0, 4, 0]])

    def test_the_channel_has_room(self):
        answered = tail(4, channels(1), add(2), at(1, 44, the_channel(0), [5], clock=[5]), go(), over(2), go())
        self.assertEqual(answered, [done(hand(1)), goes(2), [0, 0, 0], goes(1)])

    def test_values_come_out_in_the_order_in_which_they_came(self):
        calls = channels(3)
        for value in ([5], [6, 6], [7]):
            calls = calls + at(1, 44, the_channel(0), value) + go()
        answered = tail(6, calls, at(1, 45, the_channel(0)), go(), at(1, 45, the_channel(0)), go(),
                        at(1, 45, the_channel(0)), go())
        self.assertEqual(answered[0::2], [done(hand(1, [5])), done(hand(1, [6, 6])), done(hand(1, [7]))])

    def test_any_value_may_be_sent(self):
        for value in (NOTHING, [LOWEST], [HIGHEST] * 64, the_channel(0), the_task(1), whole(3), [-1, 0, 1]):
            calls = line(channels(1), at(1, 44, the_channel(0), value), go())
            self.assertEqual(last(calls, at(1, 45, the_channel(0))), done(hand(1, value)))

    def test_the_channel_is_full(self):
        calls = line(channels(2), at(1, 44, the_channel(0), [5]), go(), at(1, 44, the_channel(0), [6]), go())
        self.assertEqual(tail(2, calls, at(1, 44, the_channel(0), [7]), go()), [done(), [0, 4, 0]])

    def test_the_channel_may_hold_none(self):
        self.assertEqual(tail(2, channels(0), at(1, 44, the_channel(0), [7]), go()), [done(), [0, 4, 0]])

    def test_channels_are_apart(self):
        calls = line(channels(1, 1), at(1, 44, the_channel(0), [5]), go(), at(1, 44, the_channel(1), [6]), go())
        answered = tail(3, calls, at(1, 45, the_channel(1)), go(), at(1, 45, the_channel(0)))
        self.assertEqual(answered[0::2], [done(hand(1, [6])), done(hand(1, [5]))])

    def receiving(self, room):
        """5 and then 4 wait to receive, and 1 goes."""
        return line(channels(room), add(5), add(4), at(1, 42), go(), at(5, 45, the_channel(0)), go(),
                    at(4, 45, the_channel(0)), go())

    def test_the_first_who_waits_to_receive_is_handed_it(self):
        for room in (0, 1, 9):
            answered = tail(3, self.receiving(room), at(1, 44, the_channel(0), [7, 8]), go(), over(5))
            self.assertEqual(answered[:2], [done(hand(5, [7, 8]), hand(1)), goes(5)])

    def test_then_the_next_one_is(self):
        for room in (0, 1, 9):
            calls = line(self.receiving(room), at(1, 44, the_channel(0), [7]), go(), over(5), go())
            answered = tail(5, calls, at(1, 44, the_channel(0), [8]), go(), over(5), go(), over(4))
            self.assertEqual(answered, [done(hand(4, [8]), hand(1)), goes(5), [0, 0, 0], goes(4), [0, 0, 0]])

    def test_the_receiver_is_ready_ahead_of_the_sender(self):
        answered = tail(6, self.receiving(0), add(9), at(1, 44, the_channel(0), [7]), go(), over(9), go(), over(5), go())
        self.assertEqual(answered[1::2], [goes(9), goes(5), goes(1)])

    def test_what_was_handed_on_is_not_kept(self):
        calls = line(channels(1), add(5), at(1, 42), go(), at(5, 45, the_channel(0)), go())
        answered = tail(3, calls, at(1, 44, the_channel(0), [7]), go(), at(5, 45, the_channel(0)))
        self.assertEqual(answered, [done(hand(5, [7]), hand(1)), goes(5), done()])


class At45(unittest.TestCase):
    def test_no_channel(self):
        for target in NO_CHANNELS:
            answered = tail(4, channels(3), add(2), at(1, 45, target), go(), over(2), go())
            self.assertEqual(answered, [done(toss(1, WRONG)), goes(2), [0, 0, 0], goes(1)])
        self.assertEqual(last(add(1), go(), at(1, 45, the_channel(0))), done(toss(1, WRONG)))

    def test_nothing_is_there(self):
        for room in (0, 1, 65536):
            self.assertEqual(tail(2, channels(room), at(1, 45, the_channel(0), clock=[5]), go()),
                             [done(), [0, 4, 0]])

    def test_a_value_is_there(self):
        calls = line(channels(2), at(1, 44, the_channel(0), [5]), add(2), go())
        answered = tail(4, calls, at(1, 45, the_channel(0)), go(), over(2), go())
        self.assertEqual(answered, [done(hand(1, [5])), goes(2), [0, 0, 0], goes(1)])

    def test_a_value_is_taken_once(self):
        calls = line(channels(2), at(1, 44, the_channel(0), [5]), go(), at(1, 45, the_channel(0)), go())
        self.assertEqual(tail(2, calls, at(1, 45, the_channel(0)), go()), [done(), [0, 4, 0]])

    def sending(self, room):
        """The channel is full; 5 and then 4 wait to send 50 and 40, and 1 goes."""
        calls = channels(room)
        for value in range(room):
            calls = calls + at(1, 44, the_channel(0), [value]) + go()
        return line(calls, add(5), add(4), at(1, 42), go(), at(5, 44, the_channel(0), [50]), go(),
                    at(4, 44, the_channel(0), [40]), go())

    def test_the_first_who_waits_to_send_is_next_in_the_channel(self):
        calls = line(self.sending(2), add(9))
        answered = tail(6, calls, at(1, 45, the_channel(0)), go(), over(9), go(), over(1), go())
        self.assertEqual(answered[0], done(hand(1, [0]), hand(5)))
        self.assertEqual(answered[1::2], [goes(9), goes(1), goes(5)])

    def test_the_values_of_those_who_wait_come_last_and_in_order(self):
        calls = line(self.sending(2), at(1, 45, the_channel(0)), go())
        calls = line(calls, at(1, 45, the_channel(0)), go(), over(5), go())
        answered = tail(6, calls, at(1, 45, the_channel(0)), go(), over(4), go(), over(5), go())
        self.assertEqual(answered[0], done(hand(1, [50])))
        calls = line(calls, at(1, 45, the_channel(0)), go(), over(4), go(), over(5), go())
        self.assertEqual(tail(2, calls, at(1, 45, the_channel(0)), go()), [done(hand(1, [40])), goes(4)])

    def test_the_second_who_waits_to_send_comes_second(self):
        calls = line(self.sending(2), at(1, 45, the_channel(0)), go())
        self.assertEqual(last(calls, at(1, 45, the_channel(0))), done(hand(1, [1]), hand(4)))

    def test_the_channel_is_full_again(self):
        calls = line(self.sending(1), at(1, 45, the_channel(0)), go())
        self.assertEqual(tail(2, calls, at(1, 44, the_channel(0), [9]), go()), [done(), goes(5)])

    def test_the_channel_may_hold_none(self):
        calls = line(self.sending(0), add(9))
        answered = tail(6, calls, at(1, 45, the_channel(0)), go(), over(9), go(), over(1), go())
        self.assertEqual(answered[0], done(hand(1, [50]), hand(5)))
        self.assertEqual(answered[1::2], [goes(9), goes(1), goes(5)])

    def test_the_channel_may_hold_none_and_the_second_comes_second(self):
        calls = line(self.sending(0), at(1, 45, the_channel(0)), go())
        self.assertEqual(last(calls, at(1, 45, the_channel(0))), done(hand(1, [40]), hand(4)))

    def test_the_channel_may_hold_none_and_keeps_none(self):
        calls = line(self.sending(0), at(1, 45, the_channel(0)), go(), at(1, 45, the_channel(0)), go())
        self.assertEqual(tail(2, calls, at(5, 45, the_channel(0)), go()), [done(), goes(1)])

    def test_one_that_waited_to_send_can_wait_again(self):
        calls = line(self.sending(0), at(1, 45, the_channel(0)), go(), over(1), go())
        self.assertEqual(tail(3, calls, at(5, 44, the_channel(0), [51]), go(), at(1, 45, the_channel(0)))[0::2],
                         [done(), done(hand(1, [40]), hand(4))])


class At46(unittest.TestCase):
    def test_no_task(self):
        for target in (the_task(3), the_task(-1), the_task(2 ** 32), the_task(2 ** 32 + 1), the_task(LOWEST),
                       the_task(HIGHEST), [8], [8, 2, 0], [0], [2, 2], [9, 2], [1, 8]):
            answered = tail(4, add(1), add(2), go(), at(1, 46, target), go(), over(2), go())
            self.assertEqual(answered, [done(toss(1, WRONG)), goes(2), [0, 0, 0], goes(1)])

    def test_itself(self):
        answered = tail(4, add(1), add(2), go(), at(1, 46, the_task(1)), go(), over(2), go())
        self.assertEqual(answered, [done(toss(1, SELF)), goes(2), [0, 0, 0], goes(1)])

    def test_one_that_has_ended_by_itself(self):
        calls = line(add(1), add(2), go(), ended(1, [7, 8]), go(), add(3))
        answered = tail(4, calls, at(2, 46, the_task(1), clock=[5]), go(), over(3), go())
        self.assertEqual(answered, [done(hand(2, [7, 8])), goes(3), [0, 0, 0], goes(2)])

    def test_one_that_has_ended_by_a_throw(self):
        calls = line(add(1), add(2), go(), thrown(1, [7, 8]), go(), add(3))
        answered = tail(4, calls, at(2, 46, the_task(1)), go(), over(3), go())
        self.assertEqual(answered, [done(toss(2, [7, 8])), goes(3), [0, 0, 0], goes(2)])

    def test_it_may_be_asked_again(self):
        calls = line(add(1), add(2), go(), ended(1, [7]), go(), at(2, 46, the_task(1)), go())
        self.assertEqual(last(calls, at(2, 46, the_task(1))), done(hand(2, [7])))

    def test_what_was_sent_is_not_what_it_ended_with(self):
        calls = line(channels(1), at(1, 44, the_channel(0), [5]), add(2), go(), ended(1, [7]), go())
        self.assertEqual(last(calls, at(2, 46, the_task(1))), done(hand(2, [7])))

    def test_one_that_is_ready(self):
        calls = line(add(1), add(2), go())
        self.assertEqual(tail(3, calls, at(1, 46, the_task(2)), go(), ended(2, [7])),
                         [done(), goes(2), done(hand(1, [7]))])

    def test_one_that_waits(self):
        calls = line(channels(0), add(2), at(1, 45, the_channel(0)), go())
        self.assertEqual(tail(2, calls, at(2, 46, the_task(1)), go()), [done(), [0, 4, 0]])

    def test_task_0_and_the_highest(self):
        for number in (0, 2 ** 32 - 1):
            calls = line(add(number), add(2), go(), ended(number, [7]), go())
            self.assertEqual(last(calls, at(2, 46, the_task(number))), done(hand(2, [7])))


class At47(unittest.TestCase):
    def test_no_whole_number(self):
        for value in ([2], [2, 5, 0], [0], [8, 1], [9, 5], [0, 2], [2] * 64):
            answered = tail(4, add(1), add(2), go(), at(1, 47, value, clock=[5]), go(), over(2), go())
            self.assertEqual(answered, [done(toss(1, WRONG)), goes(2), [0, 0, 0], goes(1)])

    def test_no_whole_number_does_not_move_the_clock(self):
        calls = line(add(1), go(), at(1, 47, [0], clock=[500]), go())
        self.assertEqual(last(calls, at(1, 47, whole(1), clock=[5]), go()), [1, 2, 0, 6])

    def test_it_waits_till_the_time_told_and_z(self):
        for z in (1, 2, 1000):
            self.assertEqual(tail(2, add(1), go(), at(1, 47, whole(z), clock=[10, 99]), go()),
                             [done(asked=1), [1, 2, 0, 10 + z]])

    def test_a_time_that_has_come_already(self):
        for z in (0, -1, LOWEST):
            answered = tail(4, add(1), add(2), go(), at(1, 47, whole(z), clock=[10]), go(), over(2), go())
            self.assertEqual(answered, [done(hand(1), asked=1), goes(2), [0, 0, 0], goes(1)])

    def test_a_z_that_goes_beyond_the_last_time(self):
        for z in (LAST_TIME - 10, LAST_TIME - 9, LAST_TIME, LAST_TIME + 1, HIGHEST):
            self.assertEqual(tail(2, add(1), go(), at(1, 47, whole(z), clock=[10]), go()),
                             [done(asked=1), [1, 2, 0, LAST_TIME]])
        self.assertEqual(last(add(1), go(), at(1, 47, whole(LAST_TIME - 11), clock=[10]), go()),
                         [1, 2, 0, LAST_TIME - 1])

    def test_the_last_time_has_come(self):
        for reply in (LAST_TIME, LAST_TIME + 1, HIGHEST):
            for z in (0, 1, HIGHEST):
                self.assertEqual(last(add(1), go(), at(1, 47, whole(z), clock=[reply])), done(hand(1), asked=1))

    def test_a_clock_that_goes_back_or_is_used_up(self):
        for clock in ([9], [-1], [LOWEST], []):
            calls = line(add(1), go(), at(1, 47, whole(0), clock=[10]), go())
            self.assertEqual(tail(2, calls, at(1, 47, whole(5), clock=clock), go()),
                             [done(asked=1), [1, 2, 0, 15]])

    def test_a_clock_that_is_used_up_at_first(self):
        self.assertEqual(last(add(1), go(), at(1, 47, whole(5)), go()), [1, 2, 0, 5])

    def test_a_clock_that_is_below_0_at_first(self):
        for reply in (-1, LOWEST):
            self.assertEqual(last(add(1), go(), at(1, 47, whole(5), clock=[reply]), go(clock=[reply])), [1, 2, 0, 5])

    def test_nobody_else_is_woken_by_it(self):
        calls = line(add(1), add(2), go(), at(1, 47, whole(5)), go())
        self.assertEqual(tail(2, calls, at(2, 47, whole(5), clock=[50]), go()),
                         [done(asked=1), goes(1, given=[hand(1)], asked=1)])


if __name__ == "__main__":
    unittest.main()
