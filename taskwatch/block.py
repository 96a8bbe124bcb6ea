"""What is kept over a cut, and the block of bytes that holds it."""

BLOCK_SIZE = 49
SUMMED_SIZE = 45
FIRST_BYTE = 87
SECOND_BYTE = 1
STARTS_AT = 2
QUICK_AT = 18
DOOMED_AT = 19
CRUMB_COUNT_AT = 20
CRUMBS_AT = 21
CRUMB_SIZE = 3
PLACE_SIZE = 2
START_SIZE = 4
SUM_SIZE = 4
CAUSES = 4

MOST_CRUMBS = 8
MOST_DOOMED = 16
MOST_TASK = 15
MOST_STARTS = 4294967295
MOST_QUICK = 255

BY_THE_WATCH = 1

ALL_ONES = 0xFFFFFFFF
# 1EDC6F41H with its 32 bits turned round.
POLYNOMIAL = 0x82F63B78


class Kept:
    def __init__(self, starts, quick, doomed, crumbs):
        self.starts = starts
        self.quick = quick
        self.doomed = doomed
        self.crumbs = crumbs

    def lay_crumb(self, k, place):
        crumb = (k, place)
        if self.crumbs and self.crumbs[-1] == crumb:
            return
        self.crumbs.append(crumb)
        if len(self.crumbs) > MOST_CRUMBS:
            self.crumbs.pop(0)

    def doom(self, k):
        # Only the first task that wanted the station anew is kept.
        if self.doomed == 0:
            self.doomed = k + 1

    def forget_quick(self):
        self.quick = 0


def nothing_kept():
    return Kept([0] * CAUSES, 0, 0, [])


def kept_from(before, cause):
    starts = list(before.starts)
    starts[cause] = min(starts[cause] + 1, MOST_STARTS)
    quick = before.quick
    if cause == BY_THE_WATCH:
        quick = min(quick + 1, MOST_QUICK)
    return Kept(starts, quick, 0, [])


def checksum(octets):
    rest = ALL_ONES
    for octet in octets:
        rest = rest ^ octet
        for bit in range(8):
            low = rest & 1
            rest = rest >> 1
            if low == 1:
                rest = rest ^ POLYNOMIAL
    return rest ^ ALL_ONES


def number_from(octets):
    number = 0
    for octet in reversed(octets):
        number = number * 256 + octet
    return number


def octets_from(number, size):
    octets = []
    rest = number
    while len(octets) < size:
        octets.append(rest % 256)
        rest = rest // 256
    return octets


def crumbs_end(octets):
    return CRUMBS_AT + CRUMB_SIZE * octets[CRUMB_COUNT_AT]


def crumbs_fit(octets):
    if octets[CRUMB_COUNT_AT] > MOST_CRUMBS:
        return False
    end = crumbs_end(octets)
    for at in range(CRUMBS_AT, end, CRUMB_SIZE):
        if octets[at] > MOST_TASK:
            return False
    return not any(octets[end:SUMMED_SIZE])


def is_block(octets):
    if len(octets) != BLOCK_SIZE:
        return False
    if octets[0] != FIRST_BYTE or octets[1] != SECOND_BYTE:
        return False
    if octets[DOOMED_AT] > MOST_DOOMED or not crumbs_fit(octets):
        return False
    return number_from(octets[SUMMED_SIZE:]) == checksum(octets[:SUMMED_SIZE])


def read_block(octets):
    starts = []
    for at in range(STARTS_AT, QUICK_AT, START_SIZE):
        starts.append(number_from(octets[at:at + START_SIZE]))
    crumbs = []
    for at in range(CRUMBS_AT, crumbs_end(octets), CRUMB_SIZE):
        crumbs.append((octets[at], number_from(octets[at + 1:at + CRUMB_SIZE])))
    return Kept(starts, octets[QUICK_AT], octets[DOOMED_AT], crumbs)


def write_block(kept):
    octets = [FIRST_BYTE, SECOND_BYTE]
    for number in kept.starts:
        octets.extend(octets_from(number, START_SIZE))
    octets.extend([kept.quick, kept.doomed, len(kept.crumbs)])
    for crumb in kept.crumbs:
        octets.append(crumb[0])
        octets.extend(octets_from(crumb[1], PLACE_SIZE))
    octets.extend([0] * (SUMMED_SIZE - len(octets)))
    return octets + octets_from(checksum(octets), SUM_SIZE)
