"""Values and times: the forms that they have."""

MOST_NUMBERS = 64
# Two to the power of 62.
LAST_TIME = 4611686018427387904

NOTHING = 0
WHOLE = 2
TASK = 8
CHANNEL = 9


def is_value(numbers):
    return 1 <= len(numbers) <= MOST_NUMBERS


def is_of_kind(value, kind):
    # A longer row may begin alike, but is then some other value.
    return len(value) == 2 and value[0] == kind


def is_whole(value):
    return is_of_kind(value, WHOLE)


def nothing():
    return [NOTHING]


def whole(number):
    return [WHOLE, number]


def channel_value(number):
    return [CHANNEL, number]
