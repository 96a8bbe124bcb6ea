"""Calls and blocks for the tests, built without the package's own code."""

from collections import namedtuple

from taskwatch.station import answers

LEAST_NUMBER = -9223372036854775808
MOST_NUMBER = 9223372036854775807
LAST_TIME = 4611686018427387904
CALM_AFTER = 600000000

FED = [0, 1, 4]
NOT_FED = [0, 0]

Kept = namedtuple("Kept", "starts quick doomed crumbs")
Said = namedtuple("Said", "cause known doubt starts quick doomed crumbs")
Seen = namedtuple("Seen", "phase moment heard place late wait times")


def turned_round(number, bits):
    return int(format(number, f"0{bits}b")[::-1], 2)


def crc(octets):
    """CRC-32C with the highest bit first, another way than the package's."""
    rest = 0xFFFFFFFF
    for octet in octets:
        rest ^= turned_round(octet, 8) << 24
        for _ in range(8):
            rest = (rest << 1) ^ (0x11EDC6F41 if rest >> 31 else 0)
    return turned_round(rest, 32) ^ 0xFFFFFFFF


def lowest_first(number, size):
    return list(number.to_bytes(size, "little"))


def sealed(body):
    return list(body) + lowest_first(crc(body), 4)


def body(starts=(0, 0, 0, 0), quick=0, doomed=0, crumbs=()):
    octets = [87, 1]
    for number in starts:
        octets += lowest_first(number, 4)
    octets += [quick, doomed, len(crumbs)]
    for task_number, place in crumbs:
        octets += [task_number] + lowest_first(place, 2)
    return octets + [0] * (45 - len(octets))


def block(starts=(0, 0, 0, 0), quick=0, doomed=0, crumbs=()):
    return sealed(body(starts, quick, doomed, crumbs))


def begin(now=0, cause=0, octets=()):
    return [0, cause, now, len(octets), *octets]


def task(k, now, limit=100, rank=0, most=1, span=1000, first=10, main=1):
    return [1, k, limit, rank, most, span, first, main, now]


def report(k, place, now):
    return [2, k, place, now]


def tick(now):
    return [3, now]


def ask(k, now):
    return [4, k, now]


def halt(k, now):
    return [5, k, now]


def keep():
    return [6]


def said():
    return [7]


def look(k):
    return [8, k]


def list_tasks():
    return [9]


def joined(calls):
    return [number for call in calls for number in call]


def answered(*calls):
    """The answers to these calls, one list a call."""
    numbers = answers(joined(calls))
    found = []
    at = 0
    while at < len(numbers):
        size = numbers[at]
        found.append(numbers[at + 1:at + 1 + size])
        at += 1 + size
    return found


def last(*calls):
    return answered(*calls)[-1]


def counted(numbers):
    """The numbers behind a count, which must be just as many as it tells."""
    assert numbers[0] == len(numbers) - 1, numbers
    return numbers[1:]


def pairs(numbers):
    return list(zip(numbers[::2], numbers[1::2], strict=True))


def block_after(*calls):
    answer = last(*calls, keep())
    assert answer[0] == 0 and len(answer) == 50, answer
    return answer[1:]


def kept_after(*calls):
    """What the block tells that keep answers behind these calls; it must be just the block of that."""
    octets = block_after(*calls)
    crumbs = [(octets[at], octets[at + 1] + 256 * octets[at + 2]) for at in range(21, 21 + 3 * octets[20], 3)]
    starts = [int.from_bytes(octets[at:at + 4], "little") for at in range(2, 18, 4)]
    assert octets == block(starts, octets[18], octets[19], crumbs), octets
    return Kept(starts, octets[18], octets[19], crumbs)


def said_after(*calls):
    answer = last(*calls, said())
    assert answer[0] == 0 and answer[10] == len(answer[11:]) // 2, answer
    return Said(*answer[1:4], answer[4:8], *answer[8:10], pairs(answer[11:]))


def seen_after(k, *calls):
    answer = last(*calls, look(k))
    assert answer[0] == 0, answer
    return Seen(*answer[1:7], counted(answer[7:]))
