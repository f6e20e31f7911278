"""The desk: a list of calls is read, and their answers are told."""

from turntasks.calls import answer_add, answer_begin, answer_channel, answer_next, answer_ran
from turntasks.calls import answer_spawned, answer_state, answer_stuck
from turntasks.held import Held
from turntasks.times import Clock

BEGIN = 0
ADD = 1
NEXT = 2
RAN = 3
SPAWNED = 4
STATE = 5
CHANNEL = 6
STUCK = 7


class NoSuchCall(ValueError):
    pass


class Reader:
    def __init__(self, numbers):
        self.numbers = numbers
        self.place = 0

    def has_more(self):
        return self.place < len(self.numbers)

    def take_number(self):
        number = self.numbers[self.place]
        self.place = self.place + 1
        return number

    def take_list(self):
        length = self.take_number()
        first = self.place
        self.place = first + length
        return self.numbers[first:self.place]

    def take_lists(self):
        lists = []
        for k in range(self.take_number()):
            lists.append(self.take_list())
        return lists


def answer_call(held, call, numbers, values, clock):
    if call == BEGIN:
        return answer_begin(held, numbers[0])
    if call == ADD:
        return answer_add(held, numbers[0])
    if call == NEXT:
        return answer_next(held, clock)
    if call == RAN:
        return answer_ran(held, numbers[0], numbers[1], numbers[2], values, clock)
    if call == SPAWNED:
        return answer_spawned(held, numbers[0], numbers[1])
    if call == STATE:
        return answer_state(held, numbers[0])
    if call == CHANNEL:
        return answer_channel(held, numbers[0])
    if call == STUCK:
        return answer_stuck(held)
    raise NoSuchCall(f"no call {call}")


def answers(calls):
    held = Held()
    reader = Reader(calls)
    answered = []
    while reader.has_more():
        call = reader.take_number()
        numbers = reader.take_list()
        lists = reader.take_lists()
        clock = Clock(lists[-1])
        told = answer_call(held, call, numbers, lists[:-1], clock)
        answered.append(1 + len(told))
        answered.append(clock.asked)
        answered.extend(told)
    return answered
