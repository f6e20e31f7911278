"""The longest lines, and calls of all kinds mixed."""

import random
import unittest

from tests.helper import (
    HIGHEST, LAST_TIME, LOWEST, add, ask, at, begin, channel, done, ended, go, goes, hand, line, over, ran, spawn,
    spawned, split, state, stuck, the_channel, the_task, thrown, waiting, whole,
)
from tests.model import Model
from turntasks.desk import answers



def calls_of_round(more):
    """Calls of all eight kinds, each with more answers of the clock than are used."""
    return [begin(5, more), add(1, more), add(2, more), go(more),
            at(1, 43, whole(0), clock=more), go(more), at(2, 44, the_channel(0), [7], clock=more), channel(0, more),
            stuck(more), state(2, more), go(more), at(1, 41, clock=more),
            spawned(1, 3, more), go(more), at(1, 47, whole(5), clock=[10] + more), go([15] + more)]


# Each round begins anew, and so is answered like the first one.
TOLD_OF_ROUND = [[0, 0], [0, 0], [0, 0], goes(1, 5),
                 done(hand(1, [9, 0])), goes(2, 5), done(), [0, 0, 0, 1, 0],
                 waiting([2, 3, 0, 0]), [0, 3, 0], goes(1, 5), done(spawn(1)),
                 [0, 0], goes(1, 5), done(asked=1), goes(3, 5, given=[hand(1)], asked=1)]


class LongestLines(unittest.TestCase):
    def test_400_calls_of_all_kinds(self):
        calls = calls_of_round([]) * 25
        self.assertEqual({call[0] for call in calls}, set(range(8)))
        self.assertEqual(len(calls), 400)
        self.assertEqual(ask(*calls), TOLD_OF_ROUND * 25)

    def test_400_calls_of_16000_numbers(self):
        calls = line(*calls_of_round([77] * 34) * 25)
        before = list(calls)
        self.assertEqual(len(calls), 16000)
        self.assertEqual(split(answers(calls)), TOLD_OF_ROUND * 25)
        self.assertEqual(calls, before)

    def test_a_call_of_nearly_16000_numbers(self):
        calls = line(add(1), go(), ran(1, 3, 44, [[5] * 1000] * 15, [9] * 958), over(1), go())
        self.assertEqual(len(calls), 16000)
        self.assertEqual(ask(calls)[2:], [[0, -8], done(), goes(1)])

    def test_a_channel_that_fills(self):
        calls = line(add(1), go(), at(1, 43, whole(65536)), *[go(), at(1, 44, the_channel(0), [5] * 64)] * 198)
        self.assertEqual(len(ask(calls, channel(0))), 400)
        self.assertEqual(ask(calls, channel(0))[-1], [0, 198, 65536, 0, 0])


class Walk:
    """A line of calls, chosen by lot; the model tells who is to be told to have run."""

    def __init__(self, seed):
        self.lots = random.Random(seed)
        self.model = Model()
        self.calls = []
        self.told = []

    def call(self, call):
        numbers = call[2:2 + call[1]]
        place, lists = 3 + call[1], []
        while place < len(call):
            lists.append(call[place + 1:place + 1 + call[place]])
            place += 1 + call[place]
        self.calls.append(call)
        self.told.append(self.model.answer(call[0], numbers, lists))

    def number(self):
        return self.lots.choice([0, 1, 2, 3, 4, 5, 6, 7, 2 ** 32 - 1, -1, 2 ** 32, LOWEST, HIGHEST])

    def value(self):
        small = self.lots.randrange(-1, 5)
        return self.lots.choice([[0], whole(small), the_task(self.number()), the_channel(small), [small] * 64])

    def clock(self):
        last = self.model.time
        return self.lots.choice([[], [last], [last + 1, 3], [last + 2], [last - 1], [LOWEST], [last + 4]])

    def stand(self, t):
        target = {43: whole(self.lots.randrange(-1, 3)), 44: the_channel(self.lots.randrange(0, 4)),
                  46: the_task(self.lots.choice(list(self.model.tasks))),
                  47: whole(self.lots.choice([-1, 0, 1, 2, 3, 5, LAST_TIME]))}
        instruction = self.lots.choice([41, 42, 43, 44, 44, 45, 45, 46, 46, 47])
        first = target.get(44 if instruction == 45 else instruction)
        if self.lots.randrange(12) == 0:
            first = self.value()
        values = [first, self.value()][:{41: 0, 42: 0, 44: 2}.get(instruction, 1)]
        return at(t, instruction, *values, clock=self.clock())

    def run(self, t):
        lot = self.lots.randrange(16)
        if lot == 0:
            return ended(t, self.value())
        if lot == 1:
            return thrown(t, self.value())
        return over(t) if lot == 2 else self.stand(t)

    def step(self):
        going, spawning = self.model.those(1), self.model.those(2)
        lot = self.lots.randrange(20)
        # Where none can go on, little else than the same would be answered till the line's end.
        if self.told[-1][1:] in ([3, 0], [4, 0]) and self.calls[-1][0] == 2 and lot < 10:
            return begin(self.lots.choice([1, 9, 100000, 0]))
        if lot < 12:
            if going:
                return self.run(going[0])
            return spawned(spawning[0], self.number(), self.clock()) if spawning else go(self.clock())
        return [add(self.number(), self.clock()), add(self.lots.randrange(9)), channel(self.lots.randrange(-1, 4)),
                state(self.number(), self.clock()), stuck(self.clock()), go(self.clock()),
                spawned(self.number(), self.number()), ran(self.number(), self.lots.randrange(-1, 5), 42)][lot - 12]

    def go_on(self, many):
        self.call(begin(7))
        while len(self.calls) < many:
            self.call(self.step())


class Mixed(unittest.TestCase):
    def test_lines_chosen_by_lot_are_answered_as_the_model_answers(self):
        for seed in range(60):
            walk = Walk(seed)
            walk.go_on(400)
            self.assertEqual({call[0] for call in walk.calls}, set(range(8)))
            self.assertEqual(ask(*walk.calls), walk.told, seed)

    def test_calls_that_are_refused_or_only_tell_change_nothing(self):
        for seed in range(60, 80):
            walk = Walk(seed)
            walk.go_on(400)
            kept = [(call, told) for call, told in zip(walk.calls, walk.told) if call[0] < 5 and told[1] >= 0]
            self.assertLess(len(kept), 400)
            self.assertEqual(ask(*[call for call, told in kept]), [told for call, told in kept])


if __name__ == "__main__":
    unittest.main()
