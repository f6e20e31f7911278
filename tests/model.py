"""The document told a second time, to be held against the program: no rows are kept, each is found by stamps."""

READY, GOING, SPAWNING, SENDING, RECEIVING, FOR_END, FOR_TIME, ENDED, THROWN = range(9)
LAST_TIME = 2 ** 62
WANTED = {41: 0, 42: 0, 43: 1, 44: 2, 45: 1, 46: 1, 47: 1}


class Refused(Exception):
    pass


def refuse_unless(good, number=-8):
    if not good:
        raise Refused(number)


class Model:
    def __init__(self):
        self.stamp = 0
        self.begin(1)

    def begin(self, steps):
        refuse_unless(1 <= steps <= 100000)
        self.steps, self.tasks, self.rooms, self.kept, self.time = steps, {}, [], {}, 0
        return [0]

    def put(self, t, state, target=0, value=None):
        self.stamp += 1
        self.tasks[t] = (state, target, self.stamp, value)

    def those(self, *states):
        return [t for t in self.tasks if self.tasks[t][0] in states]

    def line_at(self, state, target=0):
        there = [t for t in self.those(state) if self.tasks[t][1] == target]
        return sorted(there, key=lambda t: self.tasks[t][2])

    def give(self, kind, t, value):
        self.orders.append([kind, t, len(value), *value])
        self.put(t, READY)

    def tell(self):
        return [len(self.orders)] + [number for order in self.orders for number in order]

    def ask(self):
        self.asked += 1
        reply = self.clock.pop(0) if self.clock else 0
        self.time = max(self.time, min(reply, LAST_TIME))

    def new(self, t):
        refuse_unless(0 <= t < 2 ** 32)
        refuse_unless(t not in self.tasks, -3)
        refuse_unless(len(self.tasks) < 1000, -5)

    def add(self, t):
        self.new(t)
        self.put(t, READY)
        return [0]

    def next(self):
        if self.those(GOING, SPAWNING):
            return [1, 0]
        if self.those(FOR_TIME):
            self.ask()
        times = sorted((self.tasks[t][1], t) for t in self.those(FOR_TIME))
        for time, t in times:
            if time <= self.time:
                self.give(0, t, [0])
        later = [time for time, t in times if time > self.time]
        if self.those(READY):
            first = self.line_at(READY)[0]
            self.put(first, GOING)
            return [0] + self.tell() + [first, self.steps]
        if later:
            return [2, 0, later[0]]
        return [3 if len(self.those(ENDED, THROWN)) == len(self.tasks) else 4, 0]

    def ran(self, t, why, at, *values):
        refuse_unless(t in self.those(GOING))
        wanted = {0: 0, 1: 1, 2: 1, 3: WANTED.get(at)}.get(why)
        refuse_unless(wanted == len(values) and all(0 < len(value) < 65 for value in values))
        if why == 0:
            self.put(t, READY)
        elif why == 3:
            self.stand(t, at, *values)
        else:
            self.put(t, ENDED + why - 1, 0, values[0])
            for waiter in self.line_at(FOR_END, t):
                self.give(why - 1, waiter, values[0])
        return [0] + self.tell()

    def stand(self, t, at, target=(), value=()):
        kind, number = target if len(target) == 2 else (0, 0)
        if at == 41:
            self.put(t, SPAWNING)
            self.orders.append([2, t])
        elif at == 42:
            self.give(0, t, [0])
        elif at == 43 and kind == 2 and 0 <= number <= 65536 and len(self.rooms) < 1000:
            self.rooms.append(number)
            self.kept[len(self.rooms) - 1] = []
            self.give(0, t, [9, len(self.rooms) - 1])
        elif at in (44, 45) and kind == 9 and 0 <= number < len(self.rooms):
            self.send(t, number, value) if at == 44 else self.receive(t, number)
        elif at == 46 and kind == 8 and number in self.tasks:
            self.await_end(t, number)
        elif at == 47 and kind == 2:
            self.ask()
            until = min(self.time + max(0, number), LAST_TIME)
            self.put(t, FOR_TIME, until) if until > self.time else self.give(0, t, [0])
        else:
            self.give(1, t, [2, -1])

    def send(self, t, c, value):
        receivers = self.line_at(RECEIVING, c)
        if not receivers and len(self.kept[c]) == self.rooms[c]:
            self.put(t, SENDING, c, value)
            return
        if receivers:
            self.give(0, receivers[0], value)
        else:
            self.kept[c].append(value)
        self.give(0, t, [0])

    def receive(self, t, c):
        senders = self.line_at(SENDING, c)
        values = self.kept[c] + [self.tasks[sender][3] for sender in senders[:1]]
        if not values:
            self.put(t, RECEIVING, c)
            return
        self.give(0, t, values[0])
        self.kept[c] = values[1:]
        for sender in senders[:1]:
            self.give(0, sender, [0])

    def await_end(self, t, u):
        state, target, stamp, value = self.tasks[u]
        if state in (ENDED, THROWN):
            self.give(state - ENDED, t, value)
        elif u == t:
            self.give(1, t, [2, -2])
        else:
            self.put(t, FOR_END, u)

    def spawned(self, t, u):
        refuse_unless(t in self.those(SPAWNING))
        if u != -1:
            self.new(u)
        self.put(t, READY)
        if u != -1:
            self.put(u, READY)
        return [0]

    def state(self, t):
        refuse_unless(t in self.tasks)
        return list(self.tasks[t][:2])

    def channel(self, c):
        refuse_unless(c >= 0)
        refuse_unless(c < len(self.rooms), -4)
        return [len(self.kept[c]), self.rooms[c], len(self.line_at(SENDING, c)), len(self.line_at(RECEIVING, c))]

    def stuck(self):
        told = []
        for t in sorted(self.those(SENDING, RECEIVING, FOR_END)):
            reached, u = [], t
            while u in self.those(FOR_END) and u not in reached:
                reached.append(u)
                u = self.tasks[u][1]
            told += [t, *self.tasks[t][:2], int(u == t and reached != [])]
        return [len(told) // 4] + told

    def answer(self, call, numbers, lists):
        self.asked, self.orders, self.clock = 0, [], lists[-1]
        named = [self.begin, self.add, self.next, self.ran, self.spawned, self.state, self.channel, self.stuck][call]
        try:
            told = named(*numbers, *lists[:-1])
        except Refused as refusal:
            told = list(refusal.args)
        return [self.asked] + told
