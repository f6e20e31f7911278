import unittest

import turntasks.desk
from tests.helper import (
    add, ask, at, begin, channel, done, ended, go, goes, hand, line, over, ran, spawn, spawned, split, state, stuck,
    the_channel, the_task, thrown, waiting, whole,
)
from turntasks.desk import answers

MANY = line(begin(6, [1, 2]), add(1, [3]), add(2), go([4]), at(1, 43, whole(1), clock=[5]), go(),
            at(2, 44, the_channel(0), [7, 8]), go(), at(1, 44, the_channel(0), [9]), go(),
            at(2, 45, the_channel(0)), go(), at(2, 47, whole(5), clock=[10, 11]), go([12, 13]), go([14]),
            ended(1, [6]), go([15]), at(2, 46, the_task(1)), go(), thrown(2, [0]), go(), add(-1), begin(0),
            add(3), go(), at(3, 41), spawned(3, 4, [16]), go(), at(3, 46, the_task(4)), go(),
            at(4, 46, the_task(3)), stuck([17]), state(3, [18]), channel(0, [19]), channel(1), state(5), spawned(3, 4))


class Told(unittest.TestCase):
    def test_the_empty_list(self):
        self.assertEqual(answers([]), [])

    def test_one_call_number_by_number(self):
        self.assertEqual(answers([0, 1, 5, 1, 0]), [2, 0, 0])
        self.assertEqual(answers([0, 1, 5, 1, 2, 70, 80]), [2, 0, 0])
        self.assertEqual(answers([0, 1, 0, 1, 1, 3]), [2, 0, -8])
        self.assertEqual(answers([1, 1, 4294967296, 1, 0]), [2, 0, -8])
        self.assertEqual(answers([2, 0, 1, 0]), [3, 0, 3, 0])
        self.assertEqual(answers([3, 3, 1, 0, 0, 1, 0]), [2, 0, -8])
        self.assertEqual(answers([4, 2, 1, 2, 1, 1, 3]), [2, 0, -8])
        self.assertEqual(answers([5, 1, 4294967296, 1, 0]), [2, 0, -8])
        self.assertEqual(answers([6, 1, 0, 1, 0]), [2, 0, -4])
        self.assertEqual(answers([6, 1, -1, 1, 2, 5, 6]), [2, 0, -8])
        self.assertEqual(answers([7, 0, 1, 0]), [2, 0, 0])

    def test_calls_number_by_number(self):
        calls = [1, 1, 9, 1, 0,
                 2, 0, 1, 1, 44,
                 3, 3, 9, 3, 47, 2, 2, 2, 6, 2, 100, 200,
                 2, 0, 1, 1, 105,
                 2, 0, 1, 3, 106, 0, 0]
        told = [2, 0, 0,
                5, 0, 0, 0, 9, 1,
                3, 1, 0, 0,
                4, 1, 2, 0, 106,
                9, 1, 0, 1, 0, 9, 1, 0, 9, 1]
        self.assertEqual(answers(calls), told)

    def test_spawned_state_channel_and_stuck_number_by_number(self):
        calls = [1, 1, 9, 1, 0,
                 2, 0, 1, 0,
                 3, 3, 9, 3, 41, 1, 0,
                 4, 2, 9, 5, 1, 2, 70, 80,
                 2, 0, 1, 0,
                 3, 3, 9, 3, 43, 2, 2, 2, 4, 0,
                 2, 0, 1, 0,
                 3, 3, 5, 3, 45, 2, 2, 9, 0, 0,
                 5, 1, 5, 1, 0,
                 6, 1, 0, 1, 1, 44,
                 7, 0, 1, 1, 33]
        told = [2, 0, 0,
                5, 0, 0, 0, 9, 1,
                5, 0, 0, 1, 2, 9,
                2, 0, 0,
                5, 0, 0, 0, 9, 1,
                8, 0, 0, 1, 0, 9, 2, 9, 0,
                5, 0, 0, 0, 5, 1,
                3, 0, 0, 0,
                3, 0, 4, 0,
                5, 0, 0, 4, 0, 1,
                6, 0, 1, 5, 4, 0, 0]
        self.assertEqual(answers(calls), told)

    def test_lists_of_values_and_the_clocks(self):
        calls = [1, 1, 1, 1, 0, 2, 0, 1, 0,
                 3, 3, 1, 3, 43, 2, 2, 2, 4, 1, 9,
                 2, 0, 1, 0,
                 3, 3, 1, 3, 44, 3, 2, 9, 0, 3, 11, 12, 13, 0]
        self.assertEqual(split(answers(calls))[2:], [[0, 0, 1, 0, 1, 2, 9, 0], goes(1), [0, 0, 1, 0, 1, 1, 0]])

    def test_a_clock_of_1000_and_values_of_1000_numbers(self):
        clock = list(range(1000))
        self.assertEqual(ask(add(1, clock), go(clock), at(1, 47, whole(1), clock=clock), go(clock))[2:],
                         [done(asked=1), [1, 2, 0, 1]])
        self.assertEqual(ask(add(1), go(), ended(1, clock))[2], [0, -8])
        self.assertEqual(ask(add(1), go(), ran(1, 0, 0, [[1]] * 100, clock))[2], [0, -8])

    def test_many_calls_one_behind_another(self):
        calls = line(add(1), add(2), go(), over(1), *([go(), over(2), go(), over(1)] * 99))
        answered = split(answers(calls))
        self.assertEqual(len(answered), 400)
        self.assertEqual(answered[2::2], [goes(1), goes(2)] * 99 + [goes(1)])
        self.assertEqual(answered[3::2], [[0, 0, 0]] * 199)

    def test_many_tasks_that_wait_for_one_end(self):
        waiting = 130
        calls = []
        for t in range(waiting + 1):
            calls += add(t)
        for t in range(waiting):
            calls += go() + at(t, 46, the_task(waiting))
        answered = ask(calls, go(), ended(waiting, [3] * 64))
        self.assertEqual(answered[-1], done(*[hand(t, [3] * 64) for t in range(waiting)]))

    def test_many_calls_of_many_kinds(self):
        self.assertEqual(ask(MANY), [
            [0, 0], [0, 0], [0, 0], goes(1, 6), done(hand(1, [9, 0])), goes(2, 6),
            done(hand(2)), goes(1, 6), done(), goes(2, 6),
            done(hand(2, [7, 8]), hand(1)), goes(2, 6), done(asked=1), goes(1, 6, asked=1), [0, 1, 0],
            done(), goes(2, 6, given=[hand(2)], asked=1), done(hand(2, [6])), goes(2, 6), done(), [0, 3, 0],
            [0, -8], [0, -8],
            [0, 0], goes(3, 6), done(spawn(3)), [0, 0], goes(3, 6), done(), goes(4, 6),
            done(), waiting([3, 5, 4, 1], [4, 5, 3, 1]), [0, 5, 4], [0, 1, 1, 0, 0], [0, -4], [0, -8], [0, -8]])


class KeptApart(unittest.TestCase):
    def test_what_is_handed_in_is_the_same_afterwards(self):
        before = list(MANY)
        answers(MANY)
        self.assertEqual(MANY, before)

    def test_what_is_handed_in_is_not_changed_for_a_while_either(self):
        class Watched(list):
            def changed(self, *given):
                raise AssertionError("the list that was handed in is changed")

            append = clear = extend = insert = pop = remove = reverse = sort = changed
            __setitem__ = __delitem__ = __iadd__ = __imul__ = changed

        self.assertEqual(answers(Watched(MANY)), answers(MANY))

    def test_a_second_time_answers_as_the_first(self):
        first = answers(MANY)
        self.assertEqual(answers(MANY), first)
        self.assertEqual(answers(line(go())), [3, 0, 3, 0])

    def test_nothing_is_kept_where_a_line_ends_with_one_that_goes(self):
        answers(line(begin(9), add(1), go()))
        self.assertEqual(ask(go(), add(1), go()), [[0, 3, 0], [0, 0], goes(1, 1)])

    def test_what_is_given_back_may_be_changed(self):
        first = answers(MANY)
        kept = list(first)
        first.clear()
        self.assertEqual(answers(MANY), kept)

    def test_only_whole_numbers_are_given_back(self):
        answered = answers(MANY)
        self.assertIs(type(answered), list)
        self.assertEqual({type(number) for number in answered}, {int})

    def test_a_number_that_is_no_call(self):
        for call in (-1, 8):
            with self.assertRaises(turntasks.desk.NoSuchCall):
                answers([call, 0, 1, 0])

    def test_the_function_has_its_name_and_its_argument(self):
        self.assertEqual(turntasks.desk.answers(calls=[]), [])


if __name__ == "__main__":
    unittest.main()
