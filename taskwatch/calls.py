"""How calls are laid out in a list, and the ranges of their numbers."""

BEGIN = 0
TASK = 1
REPORT = 2
TICK = 3
ASK = 4
HALT = 5
KEEP = 6
SAID = 7
LOOK = 8
LIST = 9

# The whole numbers of each call, by the call's number.
NAMES = {
    0: ("cause", "now"),
    1: ("k", "limit", "rank", "most", "span", "first", "main", "now"),
    2: ("k", "place", "now"),
    3: ("now",),
    4: ("k", "now"),
    5: ("k", "now"),
    6: (),
    7: (),
    8: ("k",),
    9: (),
}

RANGES = {
    "cause": (0, 3),
    "now": (0, 4611686018427387904),
    "k": (0, 15),
    "limit": (1, 86400000000),
    "rank": (0, 2),
    "most": (1, 16),
    "span": (1, 86400000000),
    "first": (1, 3600000000),
    "main": (0, 1),
    "place": (0, 65535),
}


class Call:
    def __init__(self, number, given, octets):
        self.number = number
        self.given = given
        self.octets = octets


def read_call(numbers, at):
    number = numbers[at]
    names = NAMES[number]
    given = {}
    for where, name in enumerate(names, start=at + 1):
        given[name] = numbers[where]
    octets = []
    if number == BEGIN:
        row = at + 1 + len(names)
        octets = numbers[row + 1:row + 1 + numbers[row]]
    return Call(number, given, octets)


def size_of(call):
    size = 1 + len(call.given)
    if call.number == BEGIN:
        size += 1 + len(call.octets)
    return size


def split_calls(numbers):
    found = []
    at = 0
    while at < len(numbers):
        call = read_call(numbers, at)
        found.append(call)
        at += size_of(call)
    return found


def in_ranges(given):
    for name, number in given.items():
        ends = RANGES[name]
        if number < ends[0] or number > ends[1]:
            return False
    return True
