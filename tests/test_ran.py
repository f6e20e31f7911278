import unittest

from tests.helper import (
    HIGHEST, LOWEST, WRONG, add, ask, at, begin, done, ended, go, goes, hand, last, line, over, ran, tail,
    the_channel, the_task, thrown, toss, whole,
)

ONE_GOES = line(add(1), add(2), go())


class Ran(unittest.TestCase):
    def refused(self, call):
        """The call is -8, and nothing changes: 1 goes as before, and can be told to have run."""
        self.assertEqual(tail(4, ONE_GOES, call, go(), over(1), go()),
                         [[0, -8], [0, 1, 0], [0, 0, 0], goes(2)])

    def test_0_the_turn_is_over(self):
        self.assertEqual(tail(4, ONE_GOES, over(1), go(), over(2), go()),
                         [[0, 0, 0], goes(2), [0, 0, 0], goes(1)])

    def test_0_1_and_2_do_not_look_at_at(self):
        for instruction in (0, 41, 44, 47, -5, 2147483647):
            self.assertEqual(last(ONE_GOES, ran(1, 0, instruction)), [0, 0, 0])
            self.assertEqual(last(ONE_GOES, ran(1, 1, instruction, [[5]])), [0, 0, 0])
            self.assertEqual(last(ONE_GOES, ran(1, 2, instruction, [[5]])), [0, 0, 0])

    def test_the_clock_is_not_asked(self):
        for call in (ran(1, 0, 47, [], [5]), ran(1, 1, 47, [whole(1)], [5]), ran(1, 2, 47, [whole(1)], [5])):
            self.assertEqual(last(ONE_GOES, call), [0, 0, 0])

    def test_a_why_that_is_none(self):
        for why in (-1, 4, -2147483648, 2147483647):
            self.refused(ran(1, why))
            self.refused(ran(1, why, 42))
            self.refused(ran(1, why, 47, [whole(1)], [5]))

    def test_tasks_that_are_not_going(self):
        for number in (2, 3, 0, -1, 2 ** 32, LOWEST, HIGHEST):
            self.refused(over(number))
            self.refused(ended(number, [5]))
            self.refused(at(number, 42))
            self.refused(at(number, 47, whole(5), clock=[7]))

    def test_no_task_goes(self):
        self.assertEqual(ask(over(0)), [[0, -8]])
        self.assertEqual(tail(2, add(1), over(1), go()), [[0, -8], goes(1)])

    def test_one_that_spawns_is_not_going(self):
        self.assertEqual(tail(2, ONE_GOES, at(1, 41), over(1), go()), [[0, -8], [0, 1, 0]])

    def test_one_that_has_ended_is_not_going(self):
        self.assertEqual(tail(2, ONE_GOES, ended(1, [5]), over(1), go()), [[0, -8], goes(2)])
        self.assertEqual(last(ONE_GOES, thrown(1, [5]), ended(1, [5])), [0, -8])

    def test_one_that_waits_is_not_going(self):
        calls = line(ONE_GOES, at(1, 46, the_task(2)))
        self.assertEqual(tail(2, calls, over(1), go()), [[0, -8], goes(2)])
        self.assertEqual(last(ONE_GOES, at(1, 47, whole(9)), over(1)), [0, -8])

    def test_values_not_as_many_as_are_wanted(self):
        for why, instruction, wanted in ((0, 0, 0), (1, 0, 1), (2, 0, 1), (3, 41, 0), (3, 42, 0), (3, 43, 1),
                                         (3, 44, 2), (3, 45, 1), (3, 46, 1), (3, 47, 1)):
            for many in (0, 1, 2, 3, 100):
                if many != wanted:
                    self.refused(ran(1, why, instruction, [whole(1)] * many, [5]))

    def test_values_of_no_number_and_of_more_than_64(self):
        for bad in ([], [2] * 65, [0] * 1000):
            self.refused(ended(1, bad))
            self.refused(thrown(1, bad))
            for instruction in (43, 45, 46, 47):
                self.refused(at(1, instruction, bad, clock=[5]))
            self.refused(at(1, 44, bad, [5]))
            self.refused(at(1, 44, [5], bad))
            self.refused(at(1, 44, the_channel(0), bad))

    def test_values_of_1_and_of_64_numbers(self):
        for value in ([LOWEST], [HIGHEST], list(range(64)), [LOWEST, HIGHEST] * 32):
            calls = line(ONE_GOES, at(1, 46, the_task(2)), go())
            self.assertEqual(last(calls, ended(2, value)), done(hand(1, value)))
            self.assertEqual(last(calls, thrown(2, value)), done(toss(1, value)))

    def test_an_instruction_that_is_none(self):
        for instruction in (40, 48, 0, -41, -2147483648, 2147483647):
            for values in ([], [whole(1)], [the_channel(0), [5]]):
                self.refused(ran(1, 3, instruction, values, [5]))

    def test_a_refusal_comes_ahead_of_a_toss(self):
        self.refused(at(1, 44, the_channel(9)))
        self.assertEqual(last(ONE_GOES, at(1, 44, the_channel(9), [5])), done(toss(1, WRONG)))


class Ends(unittest.TestCase):
    def waiting(self):
        """1, 4 and 3 wait, in this order, for the end of 2, which goes."""
        return line(begin(5), add(1), add(4), add(3), add(2), go(), at(1, 46, the_task(2)), go(),
                    at(4, 46, the_task(2)), go(), at(3, 46, the_task(2)), go())

    def test_nobody_waits(self):
        self.assertEqual(tail(2, ONE_GOES, ended(1, [7]), go()), [[0, 0, 0], goes(2)])
        self.assertEqual(tail(2, ONE_GOES, thrown(1, [7]), go()), [[0, 0, 0], goes(2)])

    def test_all_who_wait_are_handed_it_in_order(self):
        self.assertEqual(last(self.waiting(), ended(2, [7, 8])),
                         done(hand(1, [7, 8]), hand(4, [7, 8]), hand(3, [7, 8])))

    def test_all_who_wait_are_tossed_it_in_order(self):
        self.assertEqual(last(self.waiting(), thrown(2, [7, 8])),
                         done(toss(1, [7, 8]), toss(4, [7, 8]), toss(3, [7, 8])))

    def test_they_are_ready_in_that_order_at_the_rows_end(self):
        for end in (ended, thrown):
            answered = tail(8, self.waiting(), add(0), end(2, [7]), go(), over(0), go(), over(1), go(), over(4), go())
            self.assertEqual(answered[1::2], [goes(0, 5), goes(1, 5), goes(4, 5), goes(3, 5)])

    def test_those_who_wait_for_another_end_wait_on(self):
        calls = line(add(1), add(2), add(3), go(), at(1, 46, the_task(3)), go())
        self.assertEqual(tail(2, calls, ended(2, [7]), go()), [[0, 0, 0], goes(3)])

    def test_it_does_not_go_again(self):
        self.assertEqual(last(add(1), go(), ended(1, [7]), go()), [0, 3, 0])
        self.assertEqual(last(add(1), go(), thrown(1, [7]), go()), [0, 3, 0])


if __name__ == "__main__":
    unittest.main()
