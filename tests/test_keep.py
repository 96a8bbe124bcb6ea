import unittest

from tests.helper import (CALM_AFTER, Kept, answered, ask, begin, block, block_after, crc, halt, keep, kept_after, last,
                          report, said_after, task, tick)

MOST_STARTS = 4294967295


class Keep(unittest.TestCase):
    def test_the_block_written_out(self):
        octets = [87, 1] + [0] * 43
        octets[2] = 1
        self.assertEqual(last(begin(0), keep()), [0, *octets, *[crc(octets) >> shift & 255 for shift in (0, 8, 16, 24)]])

    def test_every_number_in_its_place(self):
        before = block((0x01020304, 0x11121314, 0x21222324, 0x31323333), 2, 16, ((4, 4),))
        calls = [begin(0, 3, before), task(14, 0, rank=2), task(15, 0), tick(0), report(15, 0x4142, 0),
                 report(14, 0x5152, 0), tick(100)]
        octets = block_after(*calls)
        self.assertEqual(octets[:27], [87, 1, 4, 3, 2, 1, 0x14, 0x13, 0x12, 0x11, 0x24, 0x23, 0x22, 0x21,
                                       0x34, 0x33, 0x32, 0x31, 2, 15, 2, 15, 0x42, 0x41, 14, 0x52, 0x51])
        self.assertEqual(octets[27:45], [0] * 18)

    def test_it_changes_nothing(self):
        calls = [begin(0), task(0, 0), tick(0), report(0, 5, 0)]
        once = answered(*calls, tick(100), report(0, 5, 100))
        self.assertEqual(answered(*calls, keep(), keep(), tick(100), keep(), report(0, 5, 100))[6::2], once[4:])
        self.assertEqual(block_after(*calls, keep(), keep()), block_after(*calls))

    def test_now_stays(self):
        self.assertEqual(answered(begin(7), keep(), tick(6), tick(7))[2:], [[-4], [0, 1, 4]])

    def test_not_begun(self):
        self.assertEqual(answered(keep(), begin(0, 4), keep(), begin(-1), keep()), [[-4], [-1], [-4], [-1], [-4]])

    def test_behind_a_refused_begin(self):
        self.assertEqual(kept_after(begin(0, 2), begin(0, 4, block((9, 9, 9, 9)))).starts, [0, 0, 1, 0])


class HandedToALaterBegin(unittest.TestCase):
    def told_by(self, *calls):
        """What a station that begins with the block kept behind these calls says of before."""
        octets = block_after(*calls)
        later = begin(0, 0, octets)
        alone = said_after(later)
        self.assertEqual(said_after(*calls, later), alone)
        self.assertEqual(last(*calls, keep(), later), [1])
        self.assertEqual(alone.known, 1)
        return Kept([alone.starts[0] - 1, *alone.starts[1:]], alone.quick, alone.doomed, alone.crumbs)

    def test_just_these_numbers(self):
        running = [task(0, 0, rank=2), task(15, 0, rank=2, limit=50), tick(0)]
        reports = [report(15, 65535, 0), report(0, 0, 1), report(15, 256, 2)]
        many = [report(place % 2 * 15, place * 257, 3) for place in range(9)]
        before = block((1, 2, 3, MOST_STARTS - 1), 254, 7, ((1, 2),))
        for cause in range(4):
            for calls in ([], running, running + reports, running + reports + [tick(60)], running + many,
                          running + many + [tick(200)], [tick(CALM_AFTER)]):
                for octets in ((), before):
                    whole = [begin(0, cause, octets), *calls]
                    self.assertEqual(self.told_by(*whole), kept_after(*whole), (cause, calls, octets))

    def test_the_watch_again_and_again(self):
        octets = ()
        for times in range(1, 300):
            octets = block_after(begin(0, 1, octets))
            kept = kept_after(begin(0, 1, octets))
            self.assertEqual((kept.starts, kept.quick), ([0, times + 1, 0, 0], min(times + 1, 255)))

    def test_doubt_after_the_third_time(self):
        octets = ()
        doubts = []
        for times in range(5):
            doubts.append(said_after(begin(0, 1, octets)).doubt)
            octets = block_after(begin(0, 1, octets))
        self.assertEqual(doubts, [0, 0, 1, 1, 1])
        calm = block_after(begin(0, 1, octets), tick(CALM_AFTER))
        self.assertEqual(said_after(begin(0, 1, calm)).doubt, 0)


class AtBegin(unittest.TestCase):
    def test_starts_by_cause(self):
        for cause in range(4):
            expected = [10, 20, 30, 40]
            expected[cause] += 1
            self.assertEqual(kept_after(begin(0, cause, block((10, 20, 30, 40)))).starts, expected)

    def test_starts_at_most(self):
        for cause in range(4):
            starts = [MOST_STARTS] * 4
            self.assertEqual(kept_after(begin(0, cause, block(starts))).starts, starts)
            starts[cause] -= 1
            self.assertEqual(kept_after(begin(0, cause, block(starts))).starts, [MOST_STARTS] * 4)

    def test_without_a_block(self):
        octets = block((1, 2, 3, 4), 5, 6, ((7, 8),))[:48]
        kept = kept_after(begin(0, 2, octets))
        self.assertEqual((kept.starts, kept.quick, kept.doomed, kept.crumbs), ([0, 0, 1, 0], 0, 0, []))
        self.assertEqual(kept_after(begin(0, 1)).quick, 1)

    def test_quick(self):
        for cause, more in ((0, 0), (1, 1), (2, 0), (3, 0)):
            self.assertEqual(kept_after(begin(0, cause, block(quick=7))).quick, 7 + more, cause)
        for quick in (254, 255):
            self.assertEqual(kept_after(begin(0, 1, block(quick=quick))).quick, 255)

    def test_doomed_and_crumbs_are_gone(self):
        kept = kept_after(begin(0, 0, block(doomed=3, crumbs=((1, 2),))))
        self.assertEqual((kept.doomed, kept.crumbs), (0, []))
        running = [begin(0), task(0, 0, rank=2), tick(0), report(0, 4, 0), tick(100)]
        kept = kept_after(*running)
        self.assertEqual((kept.doomed, kept.crumbs), (1, [(0, 4)]))
        kept = kept_after(*running, begin(0))
        self.assertEqual((kept.doomed, kept.crumbs), (0, []))

    def test_the_last_station_is_not_before(self):
        self.assertEqual(kept_after(begin(0), begin(0, 1), begin(0, 2)).starts, [0, 0, 1, 0])


class Crumbs(unittest.TestCase):
    def crumbs_of(self, *reports):
        running = [begin(0), task(0, 0), task(1, 0), task(2, 0, rank=1, limit=1000), tick(0)]
        return kept_after(*running, *reports).crumbs

    def test_one_at_each_report(self):
        self.assertEqual(self.crumbs_of(), [])
        self.assertEqual(self.crumbs_of(report(0, 0, 0), report(1, 0, 0), report(1, 65535, 1), report(0, 0, 1)),
                         [(0, 0), (1, 0), (1, 65535), (0, 0)])

    def test_the_same_as_the_last_is_not_laid_again(self):
        self.assertEqual(self.crumbs_of(report(0, 5, 0), report(0, 5, 1), report(1, 5, 1), report(1, 5, 9)),
                         [(0, 5), (1, 5)])
        self.assertEqual(self.crumbs_of(report(0, 5, 0), report(1, 5, 0), report(0, 5, 0)), [(0, 5), (1, 5), (0, 5)])

    def test_where_there_would_be_nine_the_oldest_goes(self):
        eight = [report(place % 2, place, 0) for place in range(8)]
        laid = [(place % 2, place) for place in range(8)]
        self.assertEqual(self.crumbs_of(*eight), laid)
        self.assertEqual(self.crumbs_of(*eight, eight[-1]), laid)
        self.assertEqual(self.crumbs_of(*eight, report(0, 9, 0)), laid[1:] + [(0, 9)])
        self.assertEqual(self.crumbs_of(*eight, report(0, 9, 0), report(0, 0, 0)), laid[2:] + [(0, 9), (0, 0)])

    def test_a_refused_report_lays_none(self):
        self.assertEqual(self.crumbs_of(report(3, 0, 0), report(0, 65536, 0), report(0, 0, -1)), [])
        self.assertEqual(kept_after(begin(0), task(0, 0), report(0, 0, 0)).crumbs, [])


class Doomed(unittest.TestCase):
    def test_the_first_task(self):
        tasks = [begin(0), task(9, 0, rank=2), task(4, 0, rank=2, limit=200), task(11, 0, rank=2), tick(0)]
        self.assertEqual(kept_after(*tasks, tick(99)).doomed, 0)
        self.assertEqual(kept_after(*tasks, tick(100)).doomed, 10)
        self.assertEqual(kept_after(*tasks, tick(100), tick(200)).doomed, 10)
        self.assertEqual(kept_after(*tasks, tick(200)).doomed, 5)

    def test_both_ends(self):
        for k in (0, 15):
            calls = [begin(0), task(k, 0, rank=2), tick(0), tick(100)]
            self.assertEqual(kept_after(*calls).doomed, k + 1)

    def test_it_stays(self):
        calls = [begin(0), task(5, 0, rank=2), task(3, 0, rank=2, limit=150), tick(0), tick(100)]
        for more in ([report(5, 0, 100)], [halt(5, 100)], [halt(5, 100), ask(5, 100), tick(100)], [tick(150)],
                     [report(5, 0, 100), tick(CALM_AFTER)], [halt(5, 100), halt(3, 100), tick(CALM_AFTER)]):
            self.assertEqual(kept_after(*calls, *more).doomed, 6, more)

    def test_other_ranks_doom_nothing(self):
        for rank in (0, 1):
            calls = [begin(0), task(3, 0, rank=rank), tick(0), tick(100), tick(110), tick(300)]
            self.assertEqual(kept_after(*calls).doomed, 0)


class Calm(unittest.TestCase):
    def quick_after(self, *calls, now=7):
        return kept_after(begin(now, 0, block(quick=5)), *calls).quick

    def test_at_just_the_time(self):
        self.assertEqual(self.quick_after(tick(7 + CALM_AFTER - 1)), 5)
        self.assertEqual(self.quick_after(tick(7 + CALM_AFTER)), 0)
        self.assertEqual(self.quick_after(tick(7 + CALM_AFTER + 1)), 0)

    def test_only_by_a_tick(self):
        calls = [task(0, 7), task(1, 7), tick(7)]
        long_after = 7 + CALM_AFTER
        self.assertEqual(self.quick_after(*calls, report(0, 0, long_after), task(2, long_after)), 5)
        self.assertEqual(self.quick_after(tick(7), task(0, long_after), ask(0, long_after)), 5)

    def test_not_while_something_is_wanted(self):
        now = 7 + CALM_AFTER
        waiting = task(0, now)
        self.assertEqual(self.quick_after(waiting, tick(now)), 5)
        self.assertEqual(self.quick_after(waiting, tick(now), tick(now)), 0)
        again = [task(0, 7, rank=1), tick(7), tick(now)]
        self.assertEqual(self.quick_after(*again), 5)
        self.assertEqual(self.quick_after(*again, tick(now + 9)), 0)

    def test_not_while_a_task_is_late(self):
        now = 7 + CALM_AFTER
        for rank in (0, 2):
            calls = [task(0, 7, rank=rank), task(1, 7, limit=86400000000), tick(7), tick(now), tick(now + 1)]
            self.assertEqual(self.quick_after(*calls), 5, rank)
            self.assertEqual(self.quick_after(*calls, report(0, 0, now + 1)), 5, rank)
            self.assertEqual(self.quick_after(*calls, report(0, 0, now + 1), tick(now + 2)), 0, rank)

    def test_while_tasks_run(self):
        calls = [task(0, 7, limit=CALM_AFTER + 1), tick(7)]
        self.assertEqual(self.quick_after(*calls, tick(7 + CALM_AFTER)), 0)

    def test_while_a_task_stands(self):
        self.assertEqual(self.quick_after(task(0, 7, main=0), tick(7), tick(7 + CALM_AFTER)), 0)
        given_up = [task(0, 7, rank=1, most=1), tick(7), tick(107), tick(117), tick(217)]
        self.assertEqual(self.quick_after(*given_up, tick(7 + CALM_AFTER)), 0)

    def test_although_the_watch_is_not_fed(self):
        now = 7 + CALM_AFTER
        calls = [task(0, 7, rank=2), tick(7), tick(107), report(0, 0, now), tick(now)]
        self.assertEqual(self.quick_after(*calls), 0)

    def test_it_stays_calm(self):
        now = 7 + CALM_AFTER
        self.assertEqual(self.quick_after(tick(now), task(0, now), tick(now), tick(now + 100)), 0)

    def test_a_new_beginning_is_not_calm_yet(self):
        now = 7 + CALM_AFTER
        calls = [tick(now), begin(now, 1, block(quick=5))]
        self.assertEqual(self.quick_after(*calls), 6)
        self.assertEqual(self.quick_after(*calls, tick(now + CALM_AFTER - 1)), 6)
        self.assertEqual(self.quick_after(*calls, tick(now + CALM_AFTER)), 0)
