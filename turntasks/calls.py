"""The calls, each with what it answers: a number, and behind it what is told."""

from turntasks.forms import is_value, nothing
from turntasks.held import ENDED, GOING, SPAWNING, THROWN
from turntasks.orders import hand, tell_orders
from turntasks.rings import is_in_ring
from turntasks.standing import NEVER, stand, tell_end, values_wanted

MOST_STEPS = 100000
# Two to the power of 32, less one.
HIGHEST_TASK = 4294967295

DONE = 0
NOT_AS_TOLD = -8
KNOWN = -3
NO_CHANNEL = -4
TOO_MANY = -5

GOES = 0
IS_BUSY = 1
TIME_IS_AWAITED = 2
ALL_ENDED = 3
NONE_CAN_GO = 4

TURN_OVER = 0
BY_ITSELF = 1
BY_THROW = 2
STANDS = 3

NO_THREAD = -1


def answer_begin(held, steps):
    if not 1 <= steps <= MOST_STEPS:
        return [NOT_AS_TOLD]
    held.begin_anew(steps)
    return [DONE]


def refusal_of_new(held, number):
    if not 0 <= number <= HIGHEST_TASK:
        return NOT_AS_TOLD
    if number in held.tasks:
        return KNOWN
    if held.is_full():
        return TOO_MANY
    return DONE


def answer_add(held, number):
    refused = refusal_of_new(held, number)
    if refused != DONE:
        return [refused]
    held.add_task(number)
    return [DONE]


def wake_sleepers(held, orders, clock):
    sleepers = held.sleepers()
    # Where nobody waits for a time the clock is not to be asked.
    if not sleepers:
        return
    held.hear(clock.ask())
    for task in sleepers:
        if task.target <= held.now:
            hand(held, orders, task, nothing())


def answer_next(held, clock):
    orders = []
    if held.is_busy():
        return [IS_BUSY] + tell_orders(orders)
    wake_sleepers(held, orders, clock)
    told = tell_orders(orders)
    if held.row:
        task = held.row.pop(0)
        task.wait(GOING, 0)
        return [GOES] + told + [task.number, held.steps]
    sleepers = held.sleepers()
    if sleepers:
        return [TIME_IS_AWAITED] + told + [sleepers[0].target]
    if held.all_have_ended():
        return [ALL_ENDED] + told
    return [NONE_CAN_GO] + told


def values_of_ran(why, at):
    if why == TURN_OVER:
        return 0
    if why == BY_ITSELF or why == BY_THROW:
        return 1
    if why == STANDS:
        return values_wanted(at)
    return NEVER


def end_task(held, orders, task, state, value):
    task.wait(state, 0)
    task.value = value
    waiters = task.waiters
    task.waiters = []
    for waiter in waiters:
        tell_end(held, orders, task, waiter)


def answer_ran(held, number, why, at, values, clock):
    task = held.tasks.get(number)
    if task is None or task.state != GOING:
        return [NOT_AS_TOLD]
    if len(values) != values_of_ran(why, at) or not all([is_value(value) for value in values]):
        return [NOT_AS_TOLD]
    orders = []
    if why == TURN_OVER:
        held.make_ready(task)
    elif why == BY_ITSELF:
        end_task(held, orders, task, ENDED, values[0])
    elif why == BY_THROW:
        end_task(held, orders, task, THROWN, values[0])
    else:
        stand(held, orders, task, at, values, clock)
    return [DONE] + tell_orders(orders)


def answer_spawned(held, number, new):
    task = held.tasks.get(number)
    if task is None or task.state != SPAWNING:
        return [NOT_AS_TOLD]
    if new == NO_THREAD:
        held.make_ready(task)
        return [DONE]
    refused = refusal_of_new(held, new)
    if refused != DONE:
        return [refused]
    # The one that spawns stands ahead of the one that it spawned.
    held.make_ready(task)
    held.add_task(new)
    return [DONE]


def answer_state(held, number):
    task = held.tasks.get(number)
    if task is None:
        return [NOT_AS_TOLD]
    return [task.state, task.target]


def answer_channel(held, number):
    if number < 0:
        return [NOT_AS_TOLD]
    if number >= len(held.channels):
        return [NO_CHANNEL]
    channel = held.channels[number]
    return [len(channel.kept), channel.room, len(channel.senders), len(channel.receivers)]


def answer_stuck(held):
    tasks = held.stuck_tasks()
    told = [len(tasks)]
    for task in tasks:
        told.extend([task.number, task.state, task.target, 1 if is_in_ring(held, task) else 0])
    return told
