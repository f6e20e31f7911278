"""Orders: what is to be done with a task, told in the order in which it is given."""

HAND = 0
TOSS = 1
SPAWN = 2


def order_value(kind, task, value):
    return [kind, task.number, len(value)] + value


# Whoever is handed or tossed something is ready at once, so that the row's order is the orders' own.
def hand(held, orders, task, value):
    orders.append(order_value(HAND, task, value))
    held.make_ready(task)


def toss(held, orders, task, value):
    orders.append(order_value(TOSS, task, value))
    held.make_ready(task)


def order_spawn(orders, task):
    orders.append([SPAWN, task.number])


def tell_orders(orders):
    told = [len(orders)]
    for order in orders:
        told.extend(order)
    return told
