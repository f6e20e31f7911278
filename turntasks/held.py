"""What is held: steps, tasks, channels, the row of those that are ready, the last time."""

from turntasks.forms import CHANNEL, LAST_TIME, TASK, is_of_kind, nothing

MOST_TASKS = 1000
MOST_CHANNELS = 1000

READY = 0
GOING = 1
SPAWNING = 2
SENDING = 3
RECEIVING = 4
AWAITING_END = 5
AWAITING_TIME = 6
ENDED = 7
THROWN = 8


class Task:
    def __init__(self, number):
        self.number = number
        self.state = READY
        # The channel, the task or the time that is waited for.
        self.target = 0
        # What it waits to send, or what it has ended with.
        self.value = nothing()
        # Those who wait for its end, in the order in which they came.
        self.waiters = []

    def wait(self, state, target):
        self.state = state
        self.target = target

    def has_ended(self):
        return self.state == ENDED or self.state == THROWN

    def needs_another(self):
        return self.state == SENDING or self.state == RECEIVING or self.state == AWAITING_END


class Channel:
    def __init__(self, room):
        self.room = room
        self.kept = []
        self.senders = []
        self.receivers = []


class Held:
    def __init__(self):
        self.begin_anew(1)

    def begin_anew(self, steps):
        self.steps = steps
        self.tasks = {}
        self.channels = []
        self.row = []
        self.now = 0

    def is_full(self):
        return len(self.tasks) >= MOST_TASKS

    def has_all_channels(self):
        return len(self.channels) >= MOST_CHANNELS

    def add_task(self, number):
        task = Task(number)
        self.tasks[number] = task
        self.make_ready(task)

    def make_ready(self, task):
        task.wait(READY, 0)
        self.row.append(task)

    def hear(self, reply):
        # A clock that goes back is not believed: the last time stands.
        if reply >= self.now:
            self.now = min(reply, LAST_TIME)

    def is_busy(self):
        return any([task.state == GOING or task.state == SPAWNING for task in self.tasks.values()])

    def all_have_ended(self):
        return all([task.has_ended() for task in self.tasks.values()])

    def sleepers(self):
        pairs = [(task.target, task.number) for task in self.tasks.values() if task.state == AWAITING_TIME]
        return [self.tasks[pair[1]] for pair in sorted(pairs)]

    def stuck_tasks(self):
        numbers = [task.number for task in self.tasks.values() if task.needs_another()]
        return [self.tasks[number] for number in sorted(numbers)]

    def channel_of(self, value):
        if is_of_kind(value, CHANNEL) and 0 <= value[1] < len(self.channels):
            return self.channels[value[1]]
        return None

    def task_of(self, value):
        if is_of_kind(value, TASK):
            return self.tasks.get(value[1])
        return None
