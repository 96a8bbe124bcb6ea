import unittest

from tests.helper import (FED, LAST_TIME, LEAST_NUMBER, MOST_NUMBER, NOT_FED, answered, ask, begin, block, last, report,
                          task, tick)


class Tick(unittest.TestCase):
    def test_ends_of_the_range(self):
        for now, answer in ((LEAST_NUMBER, [-1]), (-1, [-1]), (0, FED), (LAST_TIME, FED), (LAST_TIME + 1, [-1]),
                            (MOST_NUMBER, [-1])):
            self.assertEqual(last(begin(0), tick(now)), answer, now)

    def test_earlier_than_now(self):
        self.assertEqual(answered(begin(5), tick(4), tick(7), tick(6), tick(7), tick(LAST_TIME + 1), tick(8)),
                         [[0], [-4], FED, [-4], FED, [-1], FED])

    def test_a_start(self):
        self.assertEqual(answered(begin(0), task(4, 3), tick(3), tick(3), tick(4))[2:], [[0, 2, 0, 4, 4], FED, FED])
        self.assertEqual(answered(begin(0), task(4, 3), tick(50), tick(149), tick(150))[2:],
                         [[0, 2, 0, 4, 4], FED, [0, 2, 2, 4, 4]])

    def test_tasks_by_their_numbers(self):
        calls = [begin(0), task(9, 0, rank=0), task(15, 0, rank=2), task(0, 0, rank=1), task(3, 0, rank=2)]
        self.assertEqual(answered(*calls, tick(0), tick(100))[5:],
                         [[0, 5, 0, 0, 0, 3, 0, 9, 0, 15, 4], [0, 4, 1, 0, 3, 3, 2, 9, 3, 15]])

    def test_each_task_has_its_own_numbers(self):
        calls = [begin(0), task(8, 0, limit=30), task(2, 0, limit=20, rank=1, first=7), task(5, 0, limit=40, rank=2)]
        self.assertEqual(answered(*calls, tick(0), tick(20), tick(27), tick(30), tick(40), tick(47))[5:],
                         [[0, 2, 1, 2, 4], [0, 2, 0, 2, 4], [0, 2, 2, 8, 4], [0, 1, 3, 5], [0, 2, 1, 2, 5, 2]])

    def test_far_times(self):
        late = LAST_TIME - 1
        self.assertEqual(answered(begin(late), task(0, late, limit=1, rank=1, first=3600000000), tick(late),
                                  tick(LAST_TIME), tick(LAST_TIME))[2:],
                         [[0, 2, 0, 0, 4], [0, 2, 1, 0, 4], FED])


class Noted(unittest.TestCase):
    def test_overdue_at_just_the_limit(self):
        self.assertEqual(answered(begin(0), task(1, 0, limit=100), tick(10), tick(109), tick(110))[3:],
                         [FED, [0, 2, 2, 1, 4]])
        self.assertEqual(last(begin(0), task(1, 0, limit=1), tick(10), tick(11)), [0, 2, 2, 1, 4])

    def test_a_note_once_only_while_late(self):
        self.assertEqual(answered(begin(0), task(1, 0), tick(0), tick(100), tick(100), tick(5000))[3:],
                         [[0, 2, 2, 1, 4], FED, FED])

    def test_it_goes_on_running(self):
        self.assertEqual(answered(begin(0), task(1, 0), tick(0), tick(100), ask(1, 100), report(1, 0, 100))[4:],
                         [[-4], [1]])


class Anew(unittest.TestCase):
    def test_once_only_while_late(self):
        self.assertEqual(answered(begin(0), task(1, 0, rank=2), tick(0), tick(99), tick(100), tick(100), tick(900))[3:],
                         [FED, [0, 1, 3, 1], NOT_FED, NOT_FED])

    def test_not_fed_although_it_reports_again(self):
        self.assertEqual(answered(begin(0), task(0, 0, rank=2), tick(0), tick(100), report(0, 0, 100), tick(150),
                                  tick(200), tick(250))[4:], [[1], NOT_FED, [0, 1, 3, 0], NOT_FED])

    def test_others_are_looked_at_all_the_same(self):
        self.assertEqual(answered(begin(0), task(0, 0, rank=2), task(1, 0, rank=1), tick(0), tick(100), tick(110))[4:],
                         [[0, 2, 3, 0, 1, 1], [0, 1, 0, 1]])


class StartedAgain(unittest.TestCase):
    def started(self, most=16, span=86400000000, first=10, limit=100, k=1):
        return [begin(0), task(k, 0, rank=1, limit=limit, most=most, span=span, first=first), tick(0)]

    def test_overdue_at_just_the_limit(self):
        self.assertEqual(answered(*self.started(), tick(99), tick(100))[3:], [FED, [0, 2, 1, 1, 4]])

    def test_it_waits_and_starts_at_its_due(self):
        self.assertEqual(answered(*self.started(), tick(100), tick(100), tick(109), tick(110), tick(209), tick(210))[4:],
                         [FED, FED, [0, 2, 0, 1, 4], FED, [0, 2, 1, 1, 4]])

    def test_it_waits_from_the_tick_on(self):
        self.assertEqual(answered(*self.started(), tick(150), tick(159), tick(160))[3:],
                         [[0, 2, 1, 1, 4], FED, [0, 2, 0, 1, 4]])

    def test_the_wait_is_doubled_up_to_64_times_the_first(self):
        for first in (1, 10, 3600000000):
            calls = self.started(first=first)
            now = 0
            for times in (1, 2, 4, 8, 16, 32, 64, 64, 64):
                stopped = now + 100
                now = stopped + first * times
                calls += [tick(stopped), tick(now - 1), tick(now)]
            self.assertEqual(answered(*calls)[3:], [[0, 2, 1, 1, 4], FED, [0, 2, 0, 1, 4]] * 9, first)

    def test_given_up_when_most_is_reached(self):
        calls = self.started(most=1) + [tick(100), tick(110)]
        self.assertEqual(answered(*calls, tick(209), tick(210), tick(211), tick(9000))[5:],
                         [FED, [0, 3, 1, 1, 5, 1, 4], FED, FED])
        calls = self.started(most=2) + [tick(100), tick(110), tick(210), tick(230)]
        self.assertEqual(answered(*calls, tick(330), report(1, 0, 330))[5:],
                         [[0, 2, 1, 1, 4], [0, 2, 0, 1, 4], [0, 3, 1, 1, 5, 1, 4], [-4]])

    def test_most_sixteen(self):
        calls = self.started(most=16, first=1, limit=1000)
        now = 0
        for times in range(16):
            calls += [tick(now + 1000), tick(now + 1064)]
            now += 1064
        found = answered(*calls, tick(now + 1000))
        self.assertEqual(found[3:-1], [[0, 2, 1, 1, 4], [0, 2, 0, 1, 4]] * 16)
        self.assertEqual(found[-1], [0, 3, 1, 1, 5, 1, 4])

    def test_of_late_at_just_the_span(self):
        # Started again at 100; with the span added that lies behind 249, but not behind 250.
        calls = self.started(most=1, span=150) + [tick(100), tick(110)]
        self.assertEqual(last(*calls, tick(249)), [0, 3, 1, 1, 5, 1, 4])
        self.assertEqual(last(*calls, tick(250)), [0, 2, 1, 1, 4])

    def test_only_those_not_of_late_are_forgotten(self):
        # Started again at 10, 100 and 112: at 112 the first is not of late any more, at 126 the other two are.
        calls = self.started(most=2, span=102, first=1, limit=10)
        calls += [tick(10), tick(11), report(1, 0, 20), tick(20), report(1, 0, 90), tick(100), tick(102)]
        self.assertEqual(answered(*calls, tick(112), tick(116), tick(126))[8:],
                         [[0, 2, 1, 1, 4], [0, 2, 0, 1, 4], [0, 2, 1, 1, 4], [0, 2, 0, 1, 4], [0, 3, 1, 1, 5, 1, 4]])

    def test_the_first_wait_again_after_the_span(self):
        calls = self.started(span=150) + [tick(100), tick(110), report(1, 0, 200)]
        self.assertEqual(answered(*calls, tick(259), tick(300), tick(319), tick(320))[6:],
                         [FED, [0, 2, 1, 1, 4], FED, [0, 2, 0, 1, 4]])
        self.assertEqual(answered(*calls, tick(260), tick(300), tick(309), tick(310))[6:],
                         [FED, [0, 2, 1, 1, 4], FED, [0, 2, 0, 1, 4]])

    def test_the_wait_stays_when_it_is_overdue_after_the_span(self):
        calls = self.started(span=50, limit=100) + [tick(100), tick(110), tick(210)]
        self.assertEqual(answered(*calls, tick(229), tick(230))[5:], [[0, 2, 1, 1, 4], FED, [0, 2, 0, 1, 4]])

    def test_never_late(self):
        calls = self.started(most=1) + [tick(100), tick(110)]
        self.assertEqual(last(*calls, report(1, 0, 150)), [0])

    def test_a_start_heard_now(self):
        self.assertEqual(answered(*self.started(), tick(100), tick(180), tick(279), tick(280))[4:],
                         [[0, 2, 0, 1, 4], FED, [0, 2, 1, 1, 4]])

    def test_the_watch_is_fed_all_the_same(self):
        self.assertEqual(last(*self.started(most=1), tick(100), tick(110), tick(210))[-1], 4)


class StandsInDoubt(unittest.TestCase):
    def test_it_is_never_overdue(self):
        self.assertEqual(answered(begin(0, 1, block(quick=2)), task(0, 0, rank=2, main=0), tick(0), tick(100000))[2:],
                         [FED, FED])
