import unittest

from tests.helper import (FED, LAST_TIME, LEAST_NUMBER, MOST_NUMBER, NOT_FED, answered, ask, begin, block, last, report,
                          task, tick)


class Report(unittest.TestCase):
    def test_ends_of_the_ranges(self):
        running = [begin(0), task(0, 0), task(15, 0), tick(0)]
        for k, answer in ((LEAST_NUMBER, -1), (-1, -1), (0, 0), (1, -2), (14, -2), (15, 0), (16, -1), (MOST_NUMBER, -1)):
            self.assertEqual(last(*running, report(k, 0, 0)), [answer], k)
        for place, answer in ((LEAST_NUMBER, -1), (-1, -1), (0, 0), (65535, 0), (65536, -1), (MOST_NUMBER, -1)):
            self.assertEqual(last(*running, report(0, place, 0)), [answer], place)
        for now, answer in ((LEAST_NUMBER, -1), (-1, -1), (0, 0), (LAST_TIME, 0), (LAST_TIME + 1, -1),
                            (MOST_NUMBER, -1)):
            self.assertEqual(last(*running, report(0, 0, now)), [answer], now)

    def test_it_waits(self):
        self.assertEqual(last(begin(0), task(0, 0), report(0, 0, 0)), [-4])
        self.assertEqual(last(begin(0), task(0, 0, rank=1), tick(0), tick(100), report(0, 0, 100)), [-4])

    def test_it_stands(self):
        self.assertEqual(last(begin(0, 0, block(quick=3)), task(0, 0, main=0), tick(0), report(0, 0, 0)), [-4])

    def test_it_runs(self):
        self.assertEqual(answered(begin(0), task(0, 0), tick(0), report(0, 7, 0), report(0, 7, 0), report(0, 8, 50))[3:],
                         [[0], [0], [0]])

    def test_it_was_heard_now(self):
        self.assertEqual(answered(begin(0), task(0, 0), tick(0), report(0, 0, 60), tick(100), tick(159), tick(160))[4:],
                         [FED, FED, [0, 2, 2, 0, 4]])

    def test_it_was_late(self):
        for rank in (0, 2):
            self.assertEqual(answered(begin(0), task(0, 0, rank=rank), tick(0), tick(100), report(0, 0, 130),
                                      report(0, 0, 130))[4:], [[1], [0]], rank)

    def test_overdue_but_not_late(self):
        self.assertEqual(answered(begin(0), task(0, 0), tick(0), report(0, 0, 500), tick(599), tick(600))[3:],
                         [[0], FED, [0, 2, 2, 0, 4]])

    def test_late_anew(self):
        self.assertEqual(answered(begin(0), task(0, 0), tick(0), tick(100), report(0, 0, 130), tick(229), tick(230),
                                  tick(231), report(0, 0, 231))[5:], [FED, [0, 2, 2, 0, 4], FED, [1]])
        self.assertEqual(answered(begin(0), task(0, 0, rank=2), tick(0), tick(100), report(0, 0, 130), tick(229),
                                  tick(230), tick(231))[5:], [NOT_FED, [0, 1, 3, 0], NOT_FED])

    def test_only_this_task_was_heard(self):
        self.assertEqual(last(begin(0), task(0, 0), task(1, 0), tick(0), report(1, 0, 50), tick(100)), [0, 2, 2, 0, 4])

    def test_since_when_it_runs_stays(self):
        calls = [begin(0), task(0, 0, rank=1, limit=100, most=16, span=150, first=10), tick(0), tick(100), tick(110)]
        # Started again at 110 with a wait of 20: the wait is the first again at 260, not before.
        self.assertEqual(answered(*calls, report(0, 0, 200), tick(260), tick(300), tick(309), tick(310))[6:],
                         [FED, [0, 2, 1, 0, 4], FED, [0, 2, 0, 0, 4]])
        self.assertEqual(answered(*calls, report(0, 0, 200), tick(259), tick(300), tick(319), tick(320))[6:],
                         [FED, [0, 2, 1, 0, 4], FED, [0, 2, 0, 0, 4]])

    def test_a_refusal_changes_nothing(self):
        for refused in (report(0, 65536, 60), report(0, -1, 60), report(1, 0, 60), report(0, 0, LAST_TIME + 1)):
            self.assertEqual(answered(begin(0), task(0, 0), tick(0), refused, tick(50), tick(99), tick(100))[4:],
                             [FED, FED, [0, 2, 2, 0, 4]], refused)
        self.assertEqual(answered(begin(0), task(0, 5), report(0, 0, 60), tick(4), tick(5))[2:],
                         [[-4], [-4], [0, 2, 0, 0, 4]])
        self.assertEqual(answered(begin(0), task(0, 0), tick(50), report(0, 0, 49), tick(149), tick(150))[3:],
                         [[-4], FED, [0, 2, 2, 0, 4]])

    def test_now_goes_on(self):
        self.assertEqual(answered(begin(0), task(0, 0), tick(0), report(0, 0, 60), tick(59), report(0, 0, 59),
                                  ask(0, 59))[4:], [[-4], [-4], [-4]])
