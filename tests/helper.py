"""How the tests write calls, and read what is answered."""

from turntasks.desk import answers

LOWEST = -9223372036854775808
HIGHEST = 9223372036854775807
LAST_TIME = 2 ** 62

NOTHING = [0]
WRONG = [2, -1]
SELF = [2, -2]


def whole(z):
    return [2, z]


def the_task(t):
    return [8, t]


def the_channel(c):
    return [9, c]


def with_lists(lists):
    numbers = [len(lists)]
    for one in lists:
        numbers += [len(one)] + list(one)
    return numbers


def begin(steps, clock=()):
    return [0, 1, steps] + with_lists([clock])


def add(t, clock=()):
    return [1, 1, t] + with_lists([clock])


def go(clock=()):
    return [2, 0] + with_lists([clock])


def ran(t, why, at=0, values=(), clock=()):
    return [3, 3, t, why, at] + with_lists(list(values) + [clock])


def spawned(t, u, clock=()):
    return [4, 2, t, u] + with_lists([clock])


def state(t, clock=()):
    return [5, 1, t] + with_lists([clock])


def channel(c, clock=()):
    return [6, 1, c] + with_lists([clock])


def stuck(clock=()):
    return [7, 0] + with_lists([clock])


def over(t):
    return ran(t, 0)


def ended(t, value):
    return ran(t, 1, 0, [value])


def thrown(t, value):
    return ran(t, 2, 0, [value])


def at(t, instruction, *values, clock=()):
    return ran(t, 3, instruction, values, clock)


def hand(t, value=NOTHING):
    return [0, t, len(value)] + value


def toss(t, value):
    return [1, t, len(value)] + value


def spawn(t):
    return [2, t]


def orders(*given):
    numbers = [len(given)]
    for order in given:
        numbers += order
    return numbers


def done(*given, asked=0):
    """What ran answers where it gives these orders."""
    return [asked, 0] + orders(*given)


def goes(t, steps=1, given=(), asked=0):
    """What next answers where t goes."""
    return [asked, 0] + orders(*given) + [t, steps]


def waiting(*tasks):
    """What stuck answers where these wait: of each the task, 3, 4 or 5, whom or what it waits for, the ring."""
    numbers = [0, len(tasks)]
    for one in tasks:
        numbers += one
    return numbers


def split(answered):
    parts = []
    place = 0
    while place < len(answered):
        count = answered[place]
        parts.append(answered[place + 1:place + 1 + count])
        if len(parts[-1]) != count:
            raise ValueError("the last answer is cut short")
        place += 1 + count
    return parts


def line(*calls):
    numbers = []
    for call in calls:
        numbers += call
    return numbers


def channels(*rooms):
    """Calls: task 1 makes these channels, and goes."""
    calls = line(add(1), go())
    for room in rooms:
        calls = calls + at(1, 43, whole(room)) + go()
    return calls


def ask(*calls):
    return split(answers(line(*calls)))


def last(*calls):
    return ask(*calls)[-1]


def tail(count, *calls):
    """The answers of the last so many calls."""
    return ask(*calls)[-count:]
