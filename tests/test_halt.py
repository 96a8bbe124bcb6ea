import unittest

from tests.helper import (CALM_AFTER, FED, LAST_TIME, LEAST_NUMBER, MOST_NUMBER, NOT_FED, answered, ask, begin, block,
                          halt, kept_after, last, report, seen_after, task, tick)

STANDS = 2


def running(k=1, **numbers):
    return [begin(0), task(k, 0, **numbers), tick(0)]


class Halt(unittest.TestCase):
    def test_ends_of_the_ranges(self):
        calls = [begin(0), task(0, 0), task(15, 0), tick(0)]
        for k, answer in ((LEAST_NUMBER, [-1]), (-1, [-1]), (0, [0, 1, 1, 0]), (1, [-2]), (14, [-2]),
                          (15, [0, 1, 1, 15]), (16, [-1]), (MOST_NUMBER, [-1])):
            self.assertEqual(last(*calls, halt(k, 0)), answer, k)
        for now, answer in ((LEAST_NUMBER, [-1]), (-1, [-1]), (0, [0, 1, 1, 0]), (LAST_TIME, [0, 1, 1, 0]),
                            (LAST_TIME + 1, [-1]), (MOST_NUMBER, [-1])):
            self.assertEqual(last(*calls, halt(0, now)), answer, now)

    def test_it_waits(self):
        self.assertEqual(last(begin(0), task(1, 0), halt(1, 0)), [-4])
        again = running(rank=1) + [tick(100)]
        self.assertEqual(answered(*again, halt(1, 105), tick(110))[4:], [[-4], [0, 2, 0, 1, 4]])

    def test_it_stands(self):
        self.assertEqual(last(begin(0, 0, block(quick=3)), task(1, 0, main=0), tick(0), halt(1, 0)), [-4])
        self.assertEqual(answered(*running(), halt(1, 5), halt(1, 5))[3:], [[0, 1, 1, 1], [-4]])
        given_up = running(rank=1, most=1) + [tick(100), tick(110), tick(210)]
        self.assertEqual(last(*given_up, halt(1, 210)), [-4])

    def test_it_runs(self):
        for rank in range(3):
            self.assertEqual(last(*running(rank=rank), halt(1, 5)), [0, 1, 1, 1], rank)
            self.assertEqual(seen_after(1, *running(rank=rank), report(1, 8, 3), halt(1, 5)),
                             (STANDS, 0, 3, 8, 0, 10, []), rank)

    def test_it_is_overdue(self):
        for rank in range(3):
            self.assertEqual(answered(*running(rank=rank), halt(1, 100), tick(100))[3:], [[0, 1, 1, 1], FED], rank)

    def test_it_is_late(self):
        for rank in (0, 2):
            late = running(rank=rank) + [tick(100)]
            self.assertEqual(seen_after(1, *late).late, 1)
            self.assertEqual(last(*late, halt(1, 120)), [0, 1, 1, 1], rank)
            self.assertEqual(seen_after(1, *late, halt(1, 120)), (STANDS, 0, 0, 0, 0, 10, []), rank)

    def test_one_that_was_late_is_started_and_noted_anew(self):
        calls = running() + [tick(100), halt(1, 120), ask(1, 130), tick(130)]
        self.assertEqual(answered(*calls, report(1, 0, 131), tick(230), tick(231))[5:],
                         [[0], [0, 2, 0, 1, 4], [0], FED, [0, 2, 2, 1, 4]])

    def test_its_wait_and_times_stay(self):
        calls = running(rank=1, most=16) + [tick(100), tick(110), halt(1, 150)]
        self.assertEqual(seen_after(1, *calls), (STANDS, 0, 110, 0, 0, 20, [100]))

    def test_a_tick_leaves_it_standing(self):
        for rank in range(3):
            calls = running(rank=rank) + [halt(1, 5)]
            self.assertEqual(answered(*calls, tick(5), tick(105), tick(LAST_TIME))[4:], [FED] * 3, rank)
            self.assertEqual(seen_after(1, *calls, tick(LAST_TIME)).phase, STANDS, rank)

    def test_it_does_not_report(self):
        self.assertEqual(last(*running(), halt(1, 5), report(1, 0, 5)), [-4])

    def test_ask_has_it_started(self):
        calls = running(rank=1, most=16) + [tick(100), tick(110), halt(1, 150), ask(1, 160)]
        self.assertEqual(seen_after(1, *calls), (0, 160, 110, 0, 0, 10, []))
        self.assertEqual(answered(*calls, tick(160), tick(259), tick(260))[6:],
                         [[0], [0, 2, 0, 1, 4], FED, [0, 2, 1, 1, 4]])

    def test_only_this_task(self):
        calls = [begin(0), task(0, 0), task(1, 0), task(2, 0), tick(0), halt(1, 0)]
        self.assertEqual(last(*calls, tick(100)), [0, 3, 2, 0, 2, 2, 4])

    def test_nothing_else_is_wanted(self):
        calls = [begin(0), task(0, 0), task(1, 0, rank=2), tick(0)]
        self.assertEqual(answered(*calls, halt(1, 500), tick(500))[4:], [[0, 1, 1, 1], [0, 2, 2, 0, 4]])

    def test_the_watch_is_not_fed_again(self):
        self.assertEqual(answered(*running(rank=2), tick(100), halt(1, 100), tick(100))[3:],
                         [[0, 1, 3, 1], [0, 1, 1, 1], NOT_FED])

    def test_what_is_kept_stays(self):
        calls = [begin(0, 1, block(quick=5)), task(1, 0, rank=2), tick(0), report(1, 8, 0), tick(100)]
        self.assertEqual(kept_after(*calls, halt(1, CALM_AFTER)), kept_after(*calls))

    def test_calm_once_the_late_one_is_halted(self):
        calls = [begin(0, 0, block(quick=5)), task(1, 0), tick(0), tick(CALM_AFTER)]
        self.assertEqual(kept_after(*calls, tick(CALM_AFTER)).quick, 5)
        self.assertEqual(kept_after(*calls, halt(1, CALM_AFTER)).quick, 5)
        self.assertEqual(kept_after(*calls, halt(1, CALM_AFTER), tick(CALM_AFTER)).quick, 0)

    def test_a_refusal_changes_nothing(self):
        for refused in (halt(1, 49), halt(2, 60), halt(16, 60), halt(-1, 60), halt(1, -1), halt(1, LAST_TIME + 1)):
            calls = running() + [tick(50), refused]
            self.assertEqual(answered(*calls, tick(50), tick(100))[5:], [FED, [0, 2, 2, 1, 4]], refused)
        waiting = [begin(0), task(1, 5), halt(1, 60)]
        self.assertEqual(answered(*waiting, tick(4), tick(5))[2:], [[-4], [-4], [0, 2, 0, 1, 4]])

    def test_now_goes_on(self):
        self.assertEqual(answered(*running(), halt(1, 50), tick(49), ask(1, 49), halt(1, 49), ask(1, 50))[4:],
                         [[-4], [-4], [-4], [0]])
