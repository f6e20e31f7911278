"""Rings: tasks that wait for one another's ends, round and round."""

from turntasks.held import AWAITING_END


def is_in_ring(held, task):
    other = task
    # No ring has more steps than there are tasks; a way that leads into another ring would never end by itself.
    for k in range(len(held.tasks)):
        if other.state != AWAITING_END:
            return False
        other = held.tasks[other.target]
        if other.number == task.number:
            return True
    return False
