import unittest

from tests.helper import (FED, LAST_TIME, LEAST_NUMBER, MOST_NUMBER, answered, ask, begin, block, last, report, task,
                          tick)


def again(most=16, span=86400000000):
    return [begin(0), task(1, 0, rank=1, limit=100, most=most, span=span, first=10), tick(0), tick(100)]


class Ask(unittest.TestCase):
    def test_ends_of_the_ranges(self):
        waiting = [begin(0), task(0, 0), task(15, 0)]
        for k, answer in ((LEAST_NUMBER, -1), (-1, -1), (0, 0), (1, -2), (14, -2), (15, 0), (16, -1), (MOST_NUMBER, -1)):
            self.assertEqual(last(*waiting, ask(k, 0)), [answer], k)
        for now, answer in ((LEAST_NUMBER, -1), (-1, -1), (0, 0), (LAST_TIME, 0), (LAST_TIME + 1, -1),
                            (MOST_NUMBER, -1)):
            self.assertEqual(last(*waiting, ask(0, now)), [answer], now)

    def test_it_runs(self):
        self.assertEqual(answered(begin(0), task(0, 0), tick(0), ask(0, 0), tick(99), tick(100))[3:],
                         [[-4], FED, [0, 2, 2, 0, 4]])
        self.assertEqual(last(begin(0), task(0, 0), tick(0), tick(100), ask(0, 100)), [-4])

    def test_it_waits_till_now(self):
        self.assertEqual(answered(*again(), ask(1, 104), tick(104))[4:], [[0], [0, 2, 0, 1, 4]])
        self.assertEqual(answered(*again(), ask(1, 170), tick(170))[4:], [[0], [0, 2, 0, 1, 4]])
        self.assertEqual(answered(begin(0), task(0, 0), ask(0, 5), ask(0, 9), report(0, 0, 9), tick(9))[2:],
                         [[0], [0], [-4], [0, 2, 0, 0, 4]])

    def test_one_that_stands_in_doubt(self):
        self.assertEqual(answered(begin(0, 0, block(quick=3)), task(0, 0, main=0), tick(0), ask(0, 5), tick(5),
                                  report(0, 1, 5), ask(0, 5))[2:], [FED, [0], [0, 2, 0, 0, 4], [0], [-4]])

    def test_one_that_is_given_up(self):
        calls = again(most=1) + [tick(110), tick(210)]
        self.assertEqual(answered(*calls, tick(220), ask(1, 230), tick(230))[5:],
                         [[0, 3, 1, 1, 5, 1, 4], FED, [0], [0, 2, 0, 1, 4]])

    def test_no_times_of_starts_again_are_left(self):
        calls = again(most=1) + [ask(1, 105), tick(105)]
        self.assertEqual(answered(*calls, tick(205), tick(215), tick(315))[6:],
                         [[0, 2, 1, 1, 4], [0, 2, 0, 1, 4], [0, 3, 1, 1, 5, 1, 4]])

    def test_its_wait_is_the_first(self):
        calls = again() + [tick(110), tick(210), ask(1, 215), tick(215), tick(315)]
        self.assertEqual(answered(*calls, tick(324), tick(325))[-3:], [[0, 2, 1, 1, 4], FED, [0, 2, 0, 1, 4]])

    def test_only_this_task(self):
        calls = [begin(0), task(0, 0, rank=1), task(1, 0, rank=1), tick(0), tick(100), ask(1, 101)]
        self.assertEqual(answered(*calls, tick(101), tick(110))[6:], [[0, 2, 0, 1, 4], [0, 2, 0, 0, 4]])

    def test_it_is_not_started_before_a_tick(self):
        self.assertEqual(last(*again(), ask(1, 105), report(1, 0, 105)), [-4])

    def test_a_refusal_changes_nothing(self):
        for refused in (ask(2, 104), ask(16, 104), ask(1, 99), ask(1, LAST_TIME + 1)):
            self.assertEqual(answered(*again(), refused, tick(101), tick(109), tick(110))[5:],
                             [FED, FED, [0, 2, 0, 1, 4]], refused)
        self.assertEqual(answered(begin(0), task(0, 0), tick(0), ask(0, 50), tick(40))[3:], [[-4], FED])

    def test_now_goes_on(self):
        self.assertEqual(answered(begin(0), task(0, 0), ask(0, 50), tick(49), ask(0, 49), ask(0, 50))[3:],
                         [[-4], [-4], [0]])
