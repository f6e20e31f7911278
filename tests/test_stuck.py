import unittest

from tests.helper import (
    add, ask, at, begin, channels, done, ended, go, goes, hand, last, line, spawned, stuck, tail, the_channel,
    the_task, thrown, waiting, whole,
)


def ends(*pairs):
    """Calls: tasks, added in this order, of which each waits for another's end."""
    calls = []
    for task, other in pairs:
        calls += add(task)
    for task, other in pairs:
        calls += go() + at(task, 46, the_task(other))
    return calls


def ring(numbers):
    return ends(*zip(numbers, numbers[1:] + numbers[:1]))


def chain(numbers):
    """Calls: each of these but the last waits for the end of the one behind it; the last is ready."""
    calls = []
    for task in numbers:
        calls += add(task)
    for task, other in zip(numbers, numbers[1:]):
        calls += go() + at(task, 46, the_task(other))
    return calls


def told_of_chain(numbers, in_ring):
    return waiting(*sorted([task, 5, other, in_ring] for task, other in zip(numbers, numbers[1:])))


class NoneWaits(unittest.TestCase):
    def test_there_are_none(self):
        self.assertEqual(ask(stuck()), [[0, 0]])

    def test_ready_going_and_spawning(self):
        calls = line(add(1), add(2), go())
        self.assertEqual(tail(3, calls, stuck(), at(1, 41), stuck())[0::2], [[0, 0], [0, 0]])
        self.assertEqual(last(calls, at(1, 41), spawned(1, 3), stuck()), [0, 0])

    def test_ended_and_thrown(self):
        self.assertEqual(last(add(1), add(2), go(), ended(1, [5]), go(), thrown(2, [5]), stuck()), [0, 0])

    def test_waiting_for_a_time(self):
        self.assertEqual(last(add(1), go(), at(1, 47, whole(5)), go(), stuck()), [0, 0])

    def test_none_is_left_after_begin(self):
        self.assertEqual(last(ring([1, 2]), begin(1), stuck()), [0, 0])


class Who(unittest.TestCase):
    def test_one_that_sends(self):
        self.assertEqual(last(channels(0, 0, 0), at(1, 44, the_channel(2), [50]), stuck()), waiting([1, 3, 2, 0]))

    def test_one_that_receives(self):
        self.assertEqual(last(channels(0, 7), at(1, 45, the_channel(1)), stuck()), waiting([1, 4, 1, 0]))

    def test_one_that_waits_for_an_end(self):
        for number in (0, 2 ** 32 - 1):
            self.assertEqual(last(add(1), add(number), go(), at(1, 46, the_task(number)), stuck()),
                             waiting([1, 5, number, 0]))

    def test_all_by_numbers_rising(self):
        calls = line(channels(0, 0), add(2 ** 32 - 1), add(30), add(0), add(4), at(1, 42))
        for task, instruction, values in ((2 ** 32 - 1, 44, [the_channel(1), [5]]), (30, 45, [the_channel(0)]),
                                          (0, 46, [the_task(30)]), (4, 44, [the_channel(1), [6]])):
            calls = line(calls, go(), at(task, instruction, *values))
        self.assertEqual(last(calls, stuck()), waiting([0, 5, 30, 0], [4, 3, 1, 0], [30, 4, 0, 0],
                                                       [2 ** 32 - 1, 3, 1, 0]))

    def test_only_those_who_wait_so(self):
        # 8 has ended, 9 was thrown, 7 sleeps, 5 waits for its end, 1 goes, 6 is ready.
        calls = line(add(8), add(9), add(7), add(5), add(1), add(6), go(), ended(8, [0]), go(), thrown(9, [0]), go(),
                     at(7, 47, whole(50)), go(), at(5, 46, the_task(7)), go())
        self.assertEqual(last(calls, stuck()), waiting([5, 5, 7, 0]))
        self.assertEqual(last(calls, at(1, 41), stuck()), waiting([5, 5, 7, 0]))

    def test_those_who_wait_no_longer(self):
        calls = line(channels(0), add(2), add(3), at(1, 45, the_channel(0)), go(), at(2, 46, the_task(3)), go())
        self.assertEqual(last(calls, stuck()), waiting([1, 4, 0, 0], [2, 5, 3, 0]))
        self.assertEqual(tail(2, calls, at(3, 44, the_channel(0), [6]), stuck())[1], waiting([2, 5, 3, 0]))
        self.assertEqual(tail(2, calls, ended(3, [6]), stuck()), [done(hand(2, [6])), waiting([1, 4, 0, 0])])
        self.assertEqual(last(calls, thrown(3, [6]), stuck()), waiting([1, 4, 0, 0]))

    def test_one_that_asked_for_its_own_end(self):
        self.assertEqual(last(add(1), go(), at(1, 46, the_task(1)), stuck()), [0, 0])

    def test_the_clock_is_not_asked(self):
        self.assertEqual(ask(stuck([5, 6])), [[0, 0]])
        self.assertEqual(last(ring([1, 2]), stuck([5, 6])), waiting([1, 5, 2, 1], [2, 5, 1, 1]))

    def test_nothing_changes(self):
        calls = line(channels(0), add(3), add(2), at(1, 45, the_channel(0)), go(), at(3, 45, the_channel(0)), go())
        answered = tail(4, calls, stuck(), stuck(), at(2, 44, the_channel(0), [6]), go())
        self.assertEqual(answered, [waiting([1, 4, 0, 0], [3, 4, 0, 0])] * 2 + [done(hand(1, [6]), hand(2)), goes(1)])


class Rings(unittest.TestCase):
    def test_a_ring_of_two(self):
        self.assertEqual(last(ring([9, 2]), stuck()), waiting([2, 5, 9, 1], [9, 5, 2, 1]))

    def test_a_longer_ring(self):
        self.assertEqual(last(ring([9, 2, 30]), stuck()), waiting([2, 5, 30, 1], [9, 5, 2, 1], [30, 5, 9, 1]))
        self.assertEqual(last(ring([0, 3, 1, 4, 2]), stuck()),
                         waiting([0, 5, 3, 1], [1, 5, 4, 1], [2, 5, 0, 1], [3, 5, 1, 1], [4, 5, 2, 1]))

    def test_two_rings(self):
        calls = ends((1, 4), (2, 3), (3, 2), (4, 1))
        self.assertEqual(last(calls, stuck()), waiting([1, 5, 4, 1], [2, 5, 3, 1], [3, 5, 2, 1], [4, 5, 1, 1]))

    def test_one_that_waits_for_a_task_of_a_ring(self):
        for outside in (0, 5, 99):
            told = sorted([[2, 5, 7, 1], [7, 5, 2, 1], [outside, 5, 7, 0]])
            self.assertEqual(last(ends((outside, 7), (7, 2), (2, 7)), stuck()), waiting(*told))
            self.assertEqual(last(ends((2, 7), (7, 2), (outside, 7)), stuck()), waiting(*told))

    def test_a_chain_that_leads_into_a_ring(self):
        calls = ends((1, 2), (2, 3), (3, 4), (4, 5), (5, 3))
        self.assertEqual(last(calls, stuck()),
                         waiting([1, 5, 2, 0], [2, 5, 3, 0], [3, 5, 4, 1], [4, 5, 5, 1], [5, 5, 3, 1]))

    def test_several_that_wait_for_one_task_of_a_ring(self):
        calls = ends((1, 3), (2, 3), (3, 4), (4, 3), (5, 3))
        self.assertEqual(last(calls, stuck()),
                         waiting([1, 5, 3, 0], [2, 5, 3, 0], [3, 5, 4, 1], [4, 5, 3, 1], [5, 5, 3, 0]))

    def test_a_ring_is_closed_by_the_last_one_alone(self):
        calls = line(chain([1, 2, 3]))
        self.assertEqual(last(calls, stuck()), waiting([1, 5, 2, 0], [2, 5, 3, 0]))
        self.assertEqual(last(calls, go(), at(3, 46, the_task(1)), stuck()),
                         waiting([1, 5, 2, 1], [2, 5, 3, 1], [3, 5, 1, 1]))

    def test_a_chain_that_ends_at_one_that_is_ready(self):
        self.assertEqual(last(chain([5, 1, 3]), stuck()), waiting([1, 5, 3, 0], [5, 5, 1, 0]))

    def test_a_chain_that_ends_at_one_that_goes_or_spawns(self):
        calls = line(chain([5, 1, 3]), go())
        self.assertEqual(tail(3, calls, stuck(), at(3, 41), stuck())[0::2], [waiting([1, 5, 3, 0], [5, 5, 1, 0])] * 2)

    def test_a_chain_that_ends_at_one_that_sleeps(self):
        self.assertEqual(last(chain([5, 1, 3]), go(), at(3, 47, whole(5)), stuck()),
                         waiting([1, 5, 3, 0], [5, 5, 1, 0]))
        # The time that is waited for is no task, even where it is like one's number.
        self.assertEqual(last(chain([5, 1, 3]), go(), at(3, 47, whole(5)), go(clock=[4]), stuck()),
                         waiting([1, 5, 3, 0], [5, 5, 1, 0]))

    def test_a_chain_that_ends_at_one_that_sends_or_receives(self):
        # The channel 1 is no task, even where there is a task 1.
        calls = line(channels(0, 0), add(5), add(3), at(1, 46, the_task(5)), go(), at(5, 46, the_task(3)), go())
        self.assertEqual(last(calls, at(3, 44, the_channel(1), [6]), stuck()),
                         waiting([1, 5, 5, 0], [3, 3, 1, 0], [5, 5, 3, 0]))
        self.assertEqual(last(calls, at(3, 45, the_channel(1)), stuck()),
                         waiting([1, 5, 5, 0], [3, 4, 1, 0], [5, 5, 3, 0]))

    def test_two_that_send_to_one_another_are_in_no_ring(self):
        calls = line(channels(0, 0), add(0), at(1, 45, the_channel(0)), go(), at(0, 45, the_channel(1)))
        self.assertEqual(last(calls, stuck()), waiting([0, 4, 1, 0], [1, 4, 0, 0]))


class Longest(unittest.TestCase):
    """133 tasks: three calls of each, and stuck, are 400 calls."""

    numbers = [(k * 50) % 133 + 2 ** 32 - 133 for k in range(133)]

    def test_a_ring(self):
        answered = ask(ring(self.numbers), stuck())
        self.assertEqual(len(answered), 400)
        self.assertEqual(answered[-1], told_of_chain(self.numbers + self.numbers[:1], 1))

    def test_a_chain_to_one_that_sleeps(self):
        answered = ask(chain(self.numbers), go(), at(self.numbers[-1], 47, whole(5)), stuck())
        self.assertEqual(len(answered), 400)
        self.assertEqual(answered[-1], told_of_chain(self.numbers, 0))

    def test_a_chain_whose_last_one_has_ended(self):
        answered = ask(chain(self.numbers), go(), ended(self.numbers[-1], [5]), stuck())
        self.assertEqual(answered[-1], told_of_chain(self.numbers[:-1], 0))

    def test_a_chain_into_a_ring_of_two(self):
        calls = line(chain(self.numbers), go(), at(self.numbers[-1], 46, the_task(self.numbers[-2])))
        answered = ask(calls, stuck())
        self.assertEqual(len(answered), 400)
        told = told_of_chain(self.numbers + self.numbers[-2:-1], 0)[2:]
        told = [told[k:k + 4] for k in range(0, len(told), 4)]
        self.assertEqual(answered[-1], waiting(*[one[:3] + [1 if one[0] in self.numbers[-2:] else 0] for one in told]))

    def test_a_ring_that_is_told_again_and_again(self):
        answered = ask(ring(self.numbers[:89]), *[stuck()] * 133)
        self.assertEqual(len(answered), 400)
        self.assertEqual(answered[-133:], [told_of_chain(self.numbers[:89] + self.numbers[:1], 1)] * 133)


if __name__ == "__main__":
    unittest.main()
