import unittest

from tests.helper import (
    add, ask, at, begin, channel, channels, done, go, goes, hand, last, line, over, tail, the_channel, toss, whole,
)


class Channel(unittest.TestCase):
    def test_a_new_one(self):
        for room in (0, 1, 7, 65536):
            self.assertEqual(last(channels(room), channel(0)), [0, 0, room, 0, 0])

    def test_each_has_its_own_room(self):
        calls = channels(5, 0, 65536)
        self.assertEqual(tail(3, calls, channel(2), channel(0), channel(1)),
                         [[0, 0, 65536, 0, 0], [0, 0, 5, 0, 0], [0, 0, 0, 0, 0]])

    def test_how_many_values_it_holds(self):
        calls = channels(0, 3)
        for held in (1, 2, 3):
            calls = line(calls, at(1, 44, the_channel(1), [5] * 64), go())
            self.assertEqual(tail(2, calls, channel(1), channel(0)), [[0, held, 3, 0, 0], [0, 0, 0, 0, 0]])
        for held in (2, 1, 0):
            calls = line(calls, at(1, 45, the_channel(1)), go())
            self.assertEqual(last(calls, channel(1)), [0, held, 3, 0, 0])

    def test_how_many_wait_to_send(self):
        for room in (0, 2):
            calls = channels(room)
            for value in range(room):
                calls = line(calls, at(1, 44, the_channel(0), [value]), go())
            calls = line(calls, add(5), add(4), add(6), at(1, 42), go())
            self.assertEqual(last(calls, channel(0)), [0, room, room, 0, 0])
            for sender, following, many in ((5, 4, 1), (4, 6, 2), (6, 1, 3)):
                answered = tail(3, calls, at(sender, 44, the_channel(0), [sender]), channel(0), go())
                self.assertEqual(answered, [done(), [0, room, room, many, 0], goes(following)])
                calls = line(calls, at(sender, 44, the_channel(0), [sender]), go())
            self.assertEqual(last(calls, at(1, 45, the_channel(0)), channel(0)), [0, room, room, 2, 0])

    def test_how_many_wait_to_send_as_they_are_taken(self):
        calls = line(channels(0), add(5), add(4), at(1, 42), go(), at(5, 44, the_channel(0), [50]), go(),
                     at(4, 44, the_channel(0), [40]), go())
        answered = tail(6, calls, channel(0), at(1, 45, the_channel(0)), channel(0), go(), at(1, 45, the_channel(0)),
                        channel(0))
        self.assertEqual(answered, [[0, 0, 0, 2, 0], done(hand(1, [50]), hand(5)), [0, 0, 0, 1, 0], goes(1),
                                    done(hand(1, [40]), hand(4)), [0, 0, 0, 0, 0]])

    def test_how_many_wait_to_receive(self):
        for room in (0, 2):
            calls = line(channels(room), add(5), add(4), at(1, 42), go(), at(5, 45, the_channel(0)))
            self.assertEqual(last(calls, channel(0)), [0, 0, room, 0, 1])
            calls = line(calls, go(), at(4, 45, the_channel(0)))
            self.assertEqual(last(calls, channel(0)), [0, 0, room, 0, 2])
            calls = line(calls, go(), at(1, 44, the_channel(0), [7]))
            self.assertEqual(last(calls, channel(0)), [0, 0, room, 0, 1])
            calls = line(calls, go(), over(5), go(), at(1, 44, the_channel(0), [8]))
            self.assertEqual(last(calls, channel(0)), [0, 0, room, 0, 0])
            calls = line(calls, go(), at(5, 44, the_channel(0), [9]))
            self.assertEqual(last(calls, channel(0)), [0, 0, 0, 1, 0] if room == 0 else [0, 1, 2, 0, 0])

    def test_those_who_wait_elsewhere_are_not_told(self):
        calls = line(channels(0, 0), add(2), at(1, 44, the_channel(0), [5]), go(), at(2, 45, the_channel(1)))
        self.assertEqual(tail(2, calls, channel(0), channel(1)), [[0, 0, 0, 1, 0], [0, 0, 0, 0, 1]])

    def test_numbers_below_0(self):
        for number in (-1, -2, -2147483648):
            self.assertEqual(last(channels(1, 1), channel(number)), [0, -8])
            self.assertEqual(ask(channel(number)), [[0, -8]])

    def test_there_is_none(self):
        for number in (2, 3, 1000, 2147483647):
            self.assertEqual(last(channels(1, 1), channel(number)), [0, -4])
        self.assertEqual(ask(channel(0)), [[0, -4]])

    def test_one_that_could_not_be_made(self):
        self.assertEqual(tail(2, channels(), at(1, 43, whole(65537)), channel(0)), [done(toss(1, [2, -1])), [0, -4]])

    def test_none_is_left_after_begin(self):
        self.assertEqual(tail(3, channels(1), channel(0), begin(1), channel(0)), [[0, 0, 1, 0, 0], [0, 0], [0, -4]])

    def test_the_clock_is_not_asked(self):
        self.assertEqual(tail(3, channels(4), channel(0, [5, 6]), channel(1, [7]), channel(-1, [8])),
                         [[0, 0, 4, 0, 0], [0, -4], [0, -8]])

    def test_nothing_changes(self):
        calls = line(channels(4), at(1, 44, the_channel(0), [5]), go())
        self.assertEqual(tail(4, calls, channel(0), channel(0), at(1, 45, the_channel(0)), go()),
                         [[0, 1, 4, 0, 0], [0, 1, 4, 0, 0], done(hand(1, [5])), goes(1)])


if __name__ == "__main__":
    unittest.main()
