"""The instructions of machine that a task may stand at, and what each of them does."""

from turntasks.forms import LAST_TIME, channel_value, is_whole, nothing, whole
from turntasks.held import AWAITING_END, AWAITING_TIME, ENDED, RECEIVING, SENDING, SPAWNING, Channel
from turntasks.orders import hand, order_spawn, toss

AT_SPAWN = 41
AT_PAUSE = 42
AT_CHANNEL = 43
AT_SEND = 44
AT_RECEIVE = 45
AT_END = 46
AT_SLEEP = 47

MOST_ROOM = 65536
WRONG_VALUE = -1
OWN_END = -2
NEVER = -1


def values_wanted(at):
    if at == AT_SPAWN or at == AT_PAUSE:
        return 0
    if at == AT_SEND:
        return 2
    if AT_CHANNEL <= at <= AT_SLEEP:
        return 1
    # Nothing has so many values, so that no other instruction is ever taken.
    return NEVER


def toss_wrong(held, orders, task):
    toss(held, orders, task, whole(WRONG_VALUE))


def stand_at_spawn(orders, task):
    task.wait(SPAWNING, 0)
    order_spawn(orders, task)


def stand_at_channel(held, orders, task, value):
    fits = is_whole(value) and 0 <= value[1] <= MOST_ROOM
    if not fits or held.has_all_channels():
        toss_wrong(held, orders, task)
        return
    held.channels.append(Channel(value[1]))
    hand(held, orders, task, channel_value(len(held.channels) - 1))


def stand_at_send(held, orders, task, target, value):
    channel = held.channel_of(target)
    if channel is None:
        toss_wrong(held, orders, task)
    elif channel.receivers:
        hand(held, orders, channel.receivers.pop(0), value)
        hand(held, orders, task, nothing())
    elif len(channel.kept) < channel.room:
        channel.kept.append(value)
        hand(held, orders, task, nothing())
    else:
        task.value = value
        task.wait(SENDING, target[1])
        channel.senders.append(task)


def stand_at_receive(held, orders, task, target):
    channel = held.channel_of(target)
    if channel is None:
        toss_wrong(held, orders, task)
    elif channel.kept:
        hand(held, orders, task, channel.kept.pop(0))
        if channel.senders:
            sender = channel.senders.pop(0)
            channel.kept.append(sender.value)
            hand(held, orders, sender, nothing())
    elif channel.senders:
        sender = channel.senders.pop(0)
        hand(held, orders, task, sender.value)
        hand(held, orders, sender, nothing())
    else:
        task.wait(RECEIVING, target[1])
        channel.receivers.append(task)


def tell_end(held, orders, ended, waiter):
    if ended.state == ENDED:
        hand(held, orders, waiter, ended.value)
    else:
        toss(held, orders, waiter, ended.value)


def stand_at_end(held, orders, task, target):
    other = held.task_of(target)
    if other is None:
        toss_wrong(held, orders, task)
    elif other.number == task.number:
        toss(held, orders, task, whole(OWN_END))
    elif other.has_ended():
        tell_end(held, orders, other, task)
    else:
        task.wait(AWAITING_END, other.number)
        other.waiters.append(task)


def stand_at_sleep(held, orders, task, value, clock):
    if not is_whole(value):
        toss_wrong(held, orders, task)
        return
    held.hear(clock.ask())
    until = min(held.now + max(value[1], 0), LAST_TIME)
    if until <= held.now:
        hand(held, orders, task, nothing())
    else:
        task.wait(AWAITING_TIME, until)


def stand(held, orders, task, at, values, clock):
    if at == AT_SPAWN:
        stand_at_spawn(orders, task)
    elif at == AT_PAUSE:
        hand(held, orders, task, nothing())
    elif at == AT_CHANNEL:
        stand_at_channel(held, orders, task, values[0])
    elif at == AT_SEND:
        stand_at_send(held, orders, task, values[0], values[1])
    elif at == AT_RECEIVE:
        stand_at_receive(held, orders, task, values[0])
    elif at == AT_END:
        stand_at_end(held, orders, task, values[0])
    else:
        stand_at_sleep(held, orders, task, values[0], clock)
