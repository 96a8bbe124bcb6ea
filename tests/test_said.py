import unittest

from tests.helper import (CALM_AFTER, answered, ask, begin, block, halt, last, report, said, said_after, task, tick)

MOST_STARTS = 4294967295
EIGHT_CRUMBS = [(0, 0), (0, 0), (15, 65535), (7, 256), (7, 1), (1, 2), (3, 4), (5, 6)]


class Said(unittest.TestCase):
    def test_without_a_block(self):
        self.assertEqual(last(begin(0), said()), [0, 0, 0, 0, 1, 0, 0, 0, 0, 0, 0])
        self.assertEqual(last(begin(9, 1), said()), [0, 1, 0, 0, 0, 1, 0, 0, 1, 0, 0])

    def test_with_a_block(self):
        octets = block((10, 20, 30, 40), 2, 16, ((15, 65535), (0, 256)))
        self.assertEqual(last(begin(0, 1, octets), said()),
                         [0, 1, 1, 1, 10, 21, 30, 40, 3, 16, 2, 15, 65535, 0, 256])
        self.assertEqual(last(begin(0, 3, octets), said()),
                         [0, 3, 1, 0, 10, 20, 30, 41, 2, 16, 2, 15, 65535, 0, 256])

    def test_not_begun(self):
        self.assertEqual(answered(said(), begin(0, 4), said(), begin(-1), said()), [[-4], [-1], [-4], [-1], [-4]])

    def test_behind_a_refused_begin(self):
        calls = [begin(0, 2, block((1, 2, 3, 4), 5, 6, ((7, 8),)))]
        for refused in (begin(0, 4), begin(0, -1, block()), begin(-1, 0, block())):
            self.assertEqual(said_after(*calls, refused), said_after(*calls), refused)

    def test_it_changes_nothing(self):
        calls = [begin(7, 1, block(crumbs=((1, 2),))), task(0, 7), tick(7)]
        self.assertEqual(answered(*calls, said(), said(), tick(6), report(0, 0, 7), said())[3:],
                         [[0, 1, 1, 0, 0, 1, 0, 0, 1, 0, 1, 1, 2]] * 2 + [[-4], [0]]
                         + [[0, 1, 1, 0, 0, 1, 0, 0, 1, 0, 1, 1, 2]])

    def test_cause(self):
        for cause in range(4):
            self.assertEqual(said_after(begin(0, cause)).cause, cause)
            self.assertEqual(said_after(begin(0, 3 - cause), begin(0, cause, block())).cause, cause)

    def test_block_or_not(self):
        good = block((1, 2, 3, 4), 5, 6, EIGHT_CRUMBS)
        self.assertEqual(said_after(begin(0, 0, good)).known, 1)
        self.assertEqual(said_after(begin(0, 0, block())).known, 1)
        for octets in ([], good[:48], good + [0], good[:48] + [good[48] ^ 1], [0] * 49, block(doomed=17)):
            found = said_after(begin(0, 2, octets))
            self.assertEqual(found, (2, 0, 0, [0, 0, 1, 0], 0, 0, []), octets)

    def test_the_latest_beginning_counts(self):
        full = begin(0, 1, block((1, 2, 3, 4), 5, 6, EIGHT_CRUMBS))
        self.assertEqual(said_after(full, begin(0, 2)), (2, 0, 0, [0, 0, 1, 0], 0, 0, []))
        self.assertEqual(said_after(begin(0, 2), full), (1, 1, 1, [1, 3, 3, 4], 6, 6, EIGHT_CRUMBS))


class Doubt(unittest.TestCase):
    def test_from_quick_three_on(self):
        for quick, cause, doubt in ((0, 1, 0), (1, 1, 0), (2, 0, 0), (2, 2, 0), (2, 3, 0), (2, 1, 1), (3, 0, 1), (3, 1, 1),
                                    (254, 1, 1), (255, 0, 1), (255, 1, 1)):
            self.assertEqual(said_after(begin(0, cause, block(quick=quick))).doubt, doubt, (quick, cause))

    def test_it_lasts_while_it_is_calm(self):
        found = said_after(begin(0, 1, block(quick=2)), tick(CALM_AFTER))
        self.assertEqual((found.doubt, found.quick), (1, 0))


class StartsAndQuickNow(unittest.TestCase):
    def test_starts_by_cause(self):
        for cause in range(4):
            expected = [10, 20, 30, 0x01020304]
            octets = block(expected)
            expected[cause] += 1
            self.assertEqual(said_after(begin(0, cause, octets)).starts, expected)

    def test_starts_at_most(self):
        for cause in range(4):
            starts = [MOST_STARTS] * 4
            self.assertEqual(said_after(begin(0, cause, block(starts))).starts, starts)
            starts[cause] -= 1
            self.assertEqual(said_after(begin(0, cause, block(starts))).starts, [MOST_STARTS] * 4)

    def test_quick(self):
        for quick, cause, expected in ((0, 0, 0), (0, 1, 1), (7, 0, 7), (7, 1, 8), (7, 2, 7), (7, 3, 7), (254, 1, 255),
                                       (255, 1, 255), (255, 2, 255)):
            self.assertEqual(said_after(begin(0, cause, block(quick=quick))).quick, expected, (quick, cause))

    def test_quick_is_none_while_it_is_calm(self):
        calls = [begin(7, 1, block(quick=4)), tick(7 + CALM_AFTER - 1)]
        self.assertEqual(said_after(*calls).quick, 5)
        calm = calls + [tick(7 + CALM_AFTER)]
        self.assertEqual(said_after(*calm).quick, 0)
        later = 7 + CALM_AFTER
        self.assertEqual(said_after(*calm, task(0, later, rank=2), tick(later), tick(later + 100)).quick, 0)

    def test_starts_stay_when_it_is_calm(self):
        self.assertEqual(said_after(begin(0, 1, block((4, 3, 2, 1))), tick(CALM_AFTER)).starts, [4, 4, 2, 1])


class DoomedAndCrumbsBefore(unittest.TestCase):
    def test_all_of_them(self):
        for doomed in range(17):
            self.assertEqual(said_after(begin(0, 0, block(doomed=doomed))).doomed, doomed)
        for count in range(9):
            self.assertEqual(said_after(begin(0, 0, block(crumbs=EIGHT_CRUMBS[:count]))).crumbs, EIGHT_CRUMBS[:count])

    def test_also_after_reports_and_ticks(self):
        more = [task(0, 0, rank=2), task(1, 0), tick(0), report(0, 77, 0), report(1, 78, 0), tick(100), halt(0, 100),
                ask(0, 100), tick(100), tick(CALM_AFTER)]
        for octets in ((), block(), block(doomed=9, crumbs=EIGHT_CRUMBS), block(crumbs=((0, 77),))):
            first = said_after(begin(0, 0, octets))
            for count in range(len(more) + 1):
                self.assertEqual(said_after(begin(0, 0, octets), *more[:count]), first, (octets, count))
