import unittest

from tests.helper import (LAST_TIME, LEAST_NUMBER, MOST_NUMBER, answered, ask, begin, block, halt, last, look, report,
                          seen_after, task, tick)

WAITS, RUNS, STANDS = 0, 1, 2


def started(most=16, span=1000, first=10, limit=100):
    return [begin(0), task(6, 0, rank=1, limit=limit, most=most, span=span, first=first), tick(0)]


class Look(unittest.TestCase):
    def test_ends_of_the_range(self):
        calls = [begin(0), task(0, 0), task(15, 0)]
        for k, answer in ((LEAST_NUMBER, -1), (-1, -1), (0, 0), (1, -2), (14, -2), (15, 0), (16, -1), (MOST_NUMBER, -1)):
            self.assertEqual(last(*calls, look(k))[0], answer, k)
            if answer < 0:
                self.assertEqual(len(last(*calls, look(k))), 1, k)

    def test_no_task_at_all(self):
        for k in range(16):
            self.assertEqual(last(begin(0), look(k)), [-2])
            self.assertEqual(last(begin(0), task(k, 0), begin(0), look(k)), [-2])

    def test_not_begun(self):
        for k in (0, 16, -1):
            self.assertEqual(answered(look(k), begin(0, 4), look(k)), [[-4], [-1], [-4]])

    def test_laid_out(self):
        calls = started() + [tick(100), tick(110), report(6, 9, 150), tick(250)]
        self.assertEqual(last(*calls, look(6)), [0, 0, 270, 150, 9, 0, 40, 2, 100, 250])

    def test_it_changes_nothing(self):
        calls = [begin(0), task(1, 5), look(1), look(1), tick(4), look(1), tick(5), look(1), tick(105), look(1)]
        self.assertEqual(answered(*calls)[2:], [[0, 0, 5, 5, 0, 0, 10, 0]] * 2 + [[-4], [0, 0, 5, 5, 0, 0, 10, 0],
                         [0, 2, 0, 1, 4], [0, 1, 5, 5, 0, 0, 10, 0], [0, 2, 2, 1, 4], [0, 1, 5, 5, 0, 1, 10, 0]])

    def test_only_this_task(self):
        calls = [begin(0), task(1, 5, first=3), tick(6), report(1, 8, 7), task(2, 9, first=4)]
        self.assertEqual(seen_after(1, *calls), (RUNS, 6, 7, 8, 0, 3, []))
        self.assertEqual(seen_after(2, *calls), (WAITS, 9, 9, 0, 0, 4, []))


class Phases(unittest.TestCase):
    def phase_after(self, *calls):
        found = seen_after(6, *calls)
        return found.phase, found.moment

    def test_it_waits_till_its_due(self):
        new = [begin(0), task(6, 5)]
        self.assertEqual(self.phase_after(*new), (WAITS, 5))
        self.assertEqual(self.phase_after(*new, ask(6, 8)), (WAITS, 8))
        self.assertEqual(self.phase_after(*started(), tick(100)), (WAITS, 110))
        self.assertEqual(self.phase_after(*started(), tick(103), tick(112)), (WAITS, 113))
        self.assertEqual(self.phase_after(*started(), tick(100), ask(6, 105)), (WAITS, 105))

    def test_a_due_behind_the_last_time(self):
        calls = [begin(0), task(6, 0, rank=1, first=3600000000), tick(0), tick(LAST_TIME)]
        self.assertEqual(self.phase_after(*calls), (WAITS, LAST_TIME + 3600000000))

    def test_it_runs_since_the_tick_that_started_it(self):
        self.assertEqual(self.phase_after(begin(0), task(6, 5), tick(9)), (RUNS, 9))
        self.assertEqual(self.phase_after(*started(), tick(100), tick(115)), (RUNS, 115))
        self.assertEqual(self.phase_after(*started(), report(6, 0, 50), tick(60), tick(2000)), (WAITS, 2010))
        self.assertEqual(self.phase_after(*started(), report(6, 0, 50), tick(60)), (RUNS, 0))
        self.assertEqual(self.phase_after(begin(3), task(6, 5), tick(9), tick(109), report(6, 0, 110)), (RUNS, 9))

    def test_it_stands(self):
        self.assertEqual(self.phase_after(begin(3, 0, block(quick=3)), task(6, 5, main=0)), (STANDS, 0))
        self.assertEqual(self.phase_after(begin(3, 0, block(quick=3)), task(6, 5, main=0), tick(9)), (STANDS, 0))
        self.assertEqual(self.phase_after(begin(3), task(6, 5), tick(9), halt(6, 11)), (STANDS, 0))
        given_up = started(most=1) + [tick(100), tick(110), tick(210)]
        self.assertEqual(self.phase_after(*given_up), (STANDS, 0))
        self.assertEqual(self.phase_after(*given_up, tick(500)), (STANDS, 0))
        self.assertEqual(self.phase_after(*given_up, ask(6, 500)), (WAITS, 500))

    def test_in_doubt_a_main_task_waits(self):
        self.assertEqual(self.phase_after(begin(3, 0, block(quick=3)), task(6, 5, main=1)), (WAITS, 5))


class HeardAndPlace(unittest.TestCase):
    def heard_and_place(self, *calls):
        found = seen_after(6, begin(3), task(6, 5), *calls)
        return found.heard, found.place

    def test_at_first(self):
        self.assertEqual(self.heard_and_place(), (5, 0))
        self.assertEqual(seen_after(6, begin(3, 0, block(quick=3)), task(6, 5, main=0)).heard, 5)

    def test_at_its_start(self):
        self.assertEqual(self.heard_and_place(tick(8)), (8, 0))
        self.assertEqual(self.heard_and_place(tick(8), tick(20)), (8, 0))

    def test_at_a_report(self):
        self.assertEqual(self.heard_and_place(tick(8), report(6, 65535, 9)), (9, 65535))
        self.assertEqual(self.heard_and_place(tick(8), report(6, 65535, 9), report(6, 4, 10)), (10, 4))

    def test_at_a_refused_report(self):
        self.assertEqual(self.heard_and_place(report(6, 4, 9)), (5, 0))
        self.assertEqual(self.heard_and_place(tick(8), report(6, 65536, 9), report(7, 4, 9), report(6, 4, 7)), (8, 0))

    def test_ask_leaves_them(self):
        self.assertEqual(self.heard_and_place(ask(6, 9)), (5, 0))
        self.assertEqual(self.heard_and_place(tick(8), report(6, 7, 9), halt(6, 10), ask(6, 11)), (9, 7))

    def test_a_stop_and_a_start_again_leave_the_place(self):
        calls = started() + [report(6, 7, 50), tick(150)]
        self.assertEqual(seen_after(6, *calls), (WAITS, 160, 50, 7, 0, 20, [150]))
        self.assertEqual(seen_after(6, *calls, tick(160)), (RUNS, 160, 160, 7, 0, 20, [150]))

    def test_a_late_task_was_heard_when_it_was(self):
        self.assertEqual(self.heard_and_place(tick(8), report(6, 7, 9), tick(500)), (9, 7))


class Late(unittest.TestCase):
    def test_from_the_tick_on_till_the_report(self):
        for rank in (0, 2):
            calls = [begin(0), task(6, 0, rank=rank), tick(0)]
            self.assertEqual(seen_after(6, *calls).late, 0)
            self.assertEqual(seen_after(6, *calls, tick(99)).late, 0)
            self.assertEqual(seen_after(6, *calls, task(7, 100)).late, 0)
            self.assertEqual(seen_after(6, *calls, tick(100)).late, 1)
            self.assertEqual(seen_after(6, *calls, tick(100), tick(101)).late, 1)
            self.assertEqual(seen_after(6, *calls, tick(100), report(6, 0, 101)).late, 0)

    def test_one_that_is_started_again_is_not_late(self):
        for calls in ([tick(100)], [tick(100), tick(110)]):
            self.assertEqual(seen_after(6, *started(), *calls).late, 0)
        self.assertEqual(seen_after(6, *started(most=1), tick(100), tick(110), tick(210)).late, 0)


class Wait(unittest.TestCase):
    def test_the_first(self):
        for first in (1, 3600000000):
            self.assertEqual(seen_after(6, begin(0), task(6, 0, first=first)).wait, first)

    def test_doubled_up_to_64_times_the_first(self):
        for first in (1, 10, 3600000000):
            calls = started(first=first, span=86400000000)
            now = 0
            for times in (1, 2, 4, 8, 16, 32, 64, 64, 64):
                self.assertEqual(seen_after(6, *calls).wait, first * times)
                now += 100
                calls.append(tick(now))
                self.assertEqual(seen_after(6, *calls).moment, now + first * times)
                self.assertEqual(seen_after(6, *calls).wait, first * min(2 * times, 64))
                now += first * times
                calls.append(tick(now))

    def test_the_first_again_when_it_ran_for_the_span(self):
        calls = started(span=150) + [tick(100), tick(110), report(6, 0, 200)]
        self.assertEqual(seen_after(6, *calls, tick(259)).wait, 20)
        self.assertEqual(seen_after(6, *calls, tick(260)).wait, 10)
        self.assertEqual(seen_after(6, *calls, report(6, 0, 290)).wait, 20)
        self.assertEqual(seen_after(6, *calls, report(6, 0, 290), tick(290)).wait, 10)

    def test_it_stays_when_it_is_given_up(self):
        self.assertEqual(seen_after(6, *started(most=1), tick(100), tick(110), tick(210)).wait, 20)

    def test_the_first_again_when_asked(self):
        self.assertEqual(seen_after(6, *started(), tick(100), ask(6, 100)).wait, 10)


class TimesOfLate(unittest.TestCase):
    def times_after(self, *calls, span=1000, most=16):
        return seen_after(6, *started(most=most, span=span), *calls).times

    def test_none_at_first(self):
        self.assertEqual(self.times_after(), [])
        self.assertEqual(self.times_after(tick(99)), [])

    def test_the_times_of_the_stops_in_their_order(self):
        calls = [tick(100), tick(110), tick(215), tick(240)]
        self.assertEqual(self.times_after(*calls), [100, 215])
        self.assertEqual(self.times_after(*calls, tick(340)), [100, 215, 340])

    def test_at_just_the_span(self):
        # Started again at 100; nothing but now goes on behind it.
        calls = [tick(100), tick(110)]
        self.assertEqual(self.times_after(*calls, report(6, 0, 249), span=150), [100])
        self.assertEqual(self.times_after(*calls, report(6, 0, 250), span=150), [])
        self.assertEqual(self.times_after(*calls, report(6, 0, 251), span=150), [])
        self.assertEqual(self.times_after(tick(100), task(7, 100), span=1), [100])
        self.assertEqual(self.times_after(tick(100), task(7, 101), span=1), [])

    def test_only_those_that_are_of_late_now(self):
        calls = [tick(100), tick(110), tick(215), tick(235)]
        for now, times in ((399, [100, 215]), (400, [215]), (514, [215]), (515, [])):
            self.assertEqual(self.times_after(*calls, halt(6, now), span=300), times, now)

    def test_the_one_that_is_given_up(self):
        calls = [tick(100), tick(110), tick(210)]
        self.assertEqual(self.times_after(*calls, most=1), [100])
        self.assertEqual(self.times_after(*calls, task(7, 1099), most=1), [100])
        self.assertEqual(self.times_after(*calls, task(7, 1100), most=1), [])

    def test_sixteen(self):
        calls = []
        now = 0
        times = []
        for count in range(16):
            times.append(now + 100)
            calls += [tick(now + 100), tick(now + 740)]
            now += 740
        self.assertEqual(self.times_after(*calls, span=86400000000), times)
        self.assertEqual(self.times_after(*calls, tick(now + 100), span=86400000000), times)

    def test_none_are_left_when_asked(self):
        self.assertEqual(self.times_after(tick(100), ask(6, 100)), [])
        self.assertEqual(self.times_after(tick(100), tick(110), halt(6, 120), ask(6, 120), tick(120)), [])

    def test_other_ranks_have_none(self):
        for rank in (0, 2):
            self.assertEqual(seen_after(6, begin(0), task(6, 0, rank=rank), tick(0), tick(100), tick(200)).times, [])
