import unittest

from tests.helper import (FED, LAST_TIME, LEAST_NUMBER, MOST_NUMBER, answered, ask, begin, block, body, crc, last,
                          report, sealed, task, tick)

EIGHT_CRUMBS = tuple((number, number * 1000) for number in range(8, 16))


def is_block(octets):
    answer = last(begin(0, 0, octets))
    return {(1,): True, (0,): False}[tuple(answer)]


def changed(octets, at, octet):
    return octets[:at] + [octet] + octets[at + 1:]


class TheTestsOwnSum(unittest.TestCase):
    def test_known_values(self):
        self.assertEqual(crc(list(b"123456789")), 0xE3069283)
        self.assertEqual(crc([0] * 32), 0x8A9136AA)


class Blocks(unittest.TestCase):
    def test_blocks(self):
        self.assertTrue(is_block(block()))
        self.assertTrue(is_block(block((1, 2, 3, 4), 5, 6, ((7, 8), (9, 65535)))))
        self.assertTrue(is_block(block((4294967295,) * 4, 255, 16, ((15, 65535),) * 8)))
        for count in range(9):
            self.assertTrue(is_block(block(crumbs=EIGHT_CRUMBS[:count])), count)

    def test_a_block_written_out(self):
        octets = [87, 1] + [0] * 43
        self.assertTrue(is_block(octets + [crc(octets) >> shift & 255 for shift in (0, 8, 16, 24)]))

    def test_length(self):
        good = block(crumbs=EIGHT_CRUMBS)
        for octets in ([], [87], [87, 1], good[:45], good[:48], good + [0], good + good, [0] * 49, [0] * 100,
                       [87, 1] + [0] * 98, good + [0] * 51):
            self.assertFalse(is_block(octets), octets)
        for size in (41, 44, 46, 96):
            self.assertFalse(is_block(sealed((body() + [0] * 60)[:size])), size)

    def test_first_two_bytes(self):
        for octet in (0, 1, 86, 88, 255):
            self.assertFalse(is_block(sealed(changed(body(), 0, octet))), octet)
        for octet in (0, 2, 87, 255):
            self.assertFalse(is_block(sealed(changed(body(), 1, octet))), octet)

    def test_doomed(self):
        for doomed, good in ((0, True), (15, True), (16, True), (17, False), (255, False)):
            self.assertEqual(is_block(block(doomed=doomed)), good, doomed)

    def test_nine_crumbs(self):
        for count in (9, 10, 255):
            self.assertFalse(is_block(sealed(changed(body(crumbs=EIGHT_CRUMBS), 20, count))), count)
            self.assertFalse(is_block(sealed(changed(body(), 20, count))), count)

    def test_nine_crumbs_though_the_sum_reads_like_a_crumb(self):
        found = 0
        for quick in range(256):
            octets = sealed(changed(body(quick=quick, crumbs=EIGHT_CRUMBS), 20, 9))
            found += octets[45] <= 15
            self.assertFalse(is_block(octets), quick)
        self.assertGreater(found, 0)

    def test_a_crumbs_task(self):
        for where in range(8):
            good = body(crumbs=((0, 0),) * 8)
            self.assertTrue(is_block(sealed(changed(good, 21 + 3 * where, 15))), where)
            for number in (16, 17, 255):
                self.assertFalse(is_block(sealed(changed(good, 21 + 3 * where, number))), (where, number))

    def test_only_zeros_behind_the_last_crumb(self):
        for count in range(8):
            good = body(crumbs=EIGHT_CRUMBS[:count])
            for at in range(21 + 3 * count, 45):
                self.assertFalse(is_block(sealed(changed(good, at, 1))), (count, at))

    def test_wrong_sum(self):
        good = block((1, 2, 3, 4), 5, 6, ((7, 8), (9, 10)))
        for at in range(49):
            for bit in range(8):
                self.assertFalse(is_block(changed(good, at, good[at] ^ 1 << bit)), (at, bit))
        self.assertFalse(is_block(good[:45] + good[:44:-1]))
        self.assertFalse(is_block(good[:45] + [255 - octet for octet in good[45:]]))


class Begin(unittest.TestCase):
    def test_ends_of_the_ranges(self):
        for cause, answer in ((LEAST_NUMBER, -1), (-1, -1), (0, 0), (1, 0), (2, 0), (3, 0), (4, -1), (MOST_NUMBER, -1)):
            self.assertEqual(last(begin(0, cause)), [answer], cause)
        for now, answer in ((LEAST_NUMBER, -1), (-1, -1), (0, 0), (1, 0), (LAST_TIME - 1, 0), (LAST_TIME, 0),
                            (LAST_TIME + 1, -1), (MOST_NUMBER, -1)):
            self.assertEqual(last(begin(now, 0)), [answer], now)

    def test_refused_before_it_began(self):
        self.assertEqual(answered(begin(0, 4, block()), tick(0), begin(-1), tick(0)), [[-1], [-4], [-1], [-4]])

    def test_refused_begin_leaves_what_was_there(self):
        for refused in (begin(5, 4, block()), begin(5, -1), begin(-1, 0, block()), begin(LAST_TIME + 1, 0)):
            self.assertEqual(answered(begin(10), task(0, 20), refused, tick(19), tick(20), refused, report(0, 1, 20)),
                             [[0], [0], [-1], [-4], [0, 2, 0, 0, 4], [-1], [0]])

    def test_now_is_the_time_told(self):
        self.assertEqual(answered(begin(10), tick(9), tick(10), begin(5), tick(4), tick(5)),
                         [[0], [-4], FED, [0], [-4], FED])

    def test_no_tasks_are_left(self):
        self.assertEqual(answered(begin(10), task(0, 10), tick(10), begin(10, 0, block()), report(0, 0, 10), ask(0, 10),
                                  tick(10), task(0, 10)),
                         [[0], [0], [0, 2, 0, 0, 4], [1], [-2], [-2], FED, [0]])

    def test_doomed_is_none_again(self):
        calls = [begin(0), task(0, 0, rank=2), tick(0), tick(100)]
        self.assertEqual(answered(*calls, tick(101), begin(101, 1), tick(101))[-4:], [[0, 1, 3, 0], [0, 0], [0], FED])

    def test_doomed_before_is_not_doomed_now(self):
        self.assertEqual(answered(begin(0, 1, block(doomed=5)), tick(0)), [[1], FED])


class Doubt(unittest.TestCase):
    def in_doubt(self, *begins):
        answer = last(*begins, task(3, 50, main=0), tick(50))
        return {(0, 2, 0, 3, 4): False, (0, 1, 4): True}[tuple(answer)]

    def test_from_quick_three_on(self):
        for quick in (0, 1, 2):
            for cause in (0, 2, 3):
                self.assertFalse(self.in_doubt(begin(0, cause, block(quick=quick))), (quick, cause))
        for quick in (3, 4, 254, 255):
            for cause in (0, 1, 2, 3):
                self.assertTrue(self.in_doubt(begin(0, cause, block(quick=quick))), (quick, cause))

    def test_the_watch_counts_as_one_more(self):
        for quick, doubt in ((0, False), (1, False), (2, True), (3, True)):
            self.assertEqual(self.in_doubt(begin(0, 1, block(quick=quick))), doubt, quick)

    def test_no_block_tells_nothing(self):
        wrong = block(quick=9)[:48] + [0]
        self.assertFalse(self.in_doubt(begin(0, 1, wrong)))
        self.assertFalse(self.in_doubt(begin(0, 1)))

    def test_the_latest_beginning_counts(self):
        doubtful = begin(0, 1, block(quick=3))
        self.assertFalse(self.in_doubt(doubtful, begin(0)))
        self.assertFalse(self.in_doubt(begin(0, 1), begin(0, 1), begin(0, 1), begin(0, 1)))
        self.assertTrue(self.in_doubt(begin(0), doubtful))
        self.assertTrue(self.in_doubt(doubtful, begin(0, 4)))

    def test_a_main_task_waits_all_the_same(self):
        self.assertEqual(last(begin(0, 1, block(quick=3)), task(3, 50, main=1), tick(50)), [0, 2, 0, 3, 4])

    def test_doubt_lasts_while_it_is_calm(self):
        late = 600000050
        self.assertEqual(last(begin(0, 1, block(quick=3)), tick(late), task(3, late, main=0), tick(late)), FED)
