import unittest

from tests.helper import (LAST_TIME, LEAST_NUMBER, MOST_NUMBER, answered, ask, begin, block, halt, keep, last,
                          list_tasks, look, report, said, task, tick)

WITHOUT_NUMBERS = (keep(), said(), list_tasks())
GOOD = (task(0, 0), report(0, 0, 0), tick(0), ask(0, 0), halt(0, 0), look(0)) + WITHOUT_NUMBERS
OUT_OF_RANGE = (task(16, 0), report(0, 65536, 0), tick(-1), ask(-1, 0), halt(16, 0), halt(0, -1), look(16), look(-1))


def all_that_is_told(*calls):
    """All that the calls without a time tell behind these calls."""
    return answered(*calls, *WITHOUT_NUMBERS, *[look(k) for k in range(16)])[len(calls):]


class Order(unittest.TestCase):
    def test_not_begun_comes_first(self):
        for call in GOOD + OUT_OF_RANGE:
            self.assertEqual(answered(call), [[-4]], call)
            self.assertEqual(answered(call, call, begin(0), tick(0)), [[-4], [-4], [0], [0, 1, 4]], call)

    def test_then_the_ranges(self):
        begun = [begin(10), task(0, 10), tick(10)]
        for call in (task(0, 9, main=2), task(16, 9), task(0, LAST_TIME + 1), task(0, -1), report(16, 0, 9),
                     report(1, -1, 9), report(0, 65536, 9), report(1, 0, -1), tick(-1), ask(-1, 9), ask(1, -1),
                     ask(0, LAST_TIME + 1), halt(-1, 9), halt(16, 10), halt(1, -1), halt(0, LAST_TIME + 1), look(-1),
                     look(16), look(LEAST_NUMBER), look(MOST_NUMBER)):
            self.assertEqual(last(*begun, call), [-1], call)

    def test_then_the_time(self):
        begun = [begin(10), task(0, 10), tick(10)]
        for call in (task(1, 9), task(0, 9), report(0, 0, 9), report(1, 0, 9), tick(9), ask(0, 9), ask(1, 9),
                     halt(0, 9), halt(1, 9)):
            self.assertEqual(last(*begun, call), [-4], call)

    def test_then_whether_there_is_the_task(self):
        for call in (report(1, 0, 10), ask(1, 10), halt(1, 10), look(1), report(15, 65535, LAST_TIME),
                     ask(15, LAST_TIME), halt(15, LAST_TIME), look(15)):
            self.assertEqual(last(begin(10), task(0, 10), call), [-2], call)
            self.assertEqual(last(begin(10), call), [-2], call)

    def test_then_the_promise(self):
        begun = [begin(10), task(0, 10), tick(10)]
        self.assertEqual(last(*begun, task(0, 10)), [-4])
        self.assertEqual(last(*begun, ask(0, 10)), [-4])
        self.assertEqual(last(*begun[:2], report(0, 0, 10)), [-4])
        self.assertEqual(last(*begun[:2], halt(0, 10)), [-4])

    def test_begin_is_refused_by_its_ranges_alone(self):
        self.assertEqual(answered(begin(50), begin(10), begin(0, 4), begin(0, 3), begin(-1, 0), tick(0)),
                         [[0], [0], [-1], [0], [-1], [0, 1, 4]])

    def test_calls_without_a_time_are_never_too_early(self):
        for call in WITHOUT_NUMBERS + (look(0),):
            self.assertEqual(last(begin(LAST_TIME), task(0, LAST_TIME), call)[0], 0, call)


class NothingIsChanged(unittest.TestCase):
    def test_by_a_refusal(self):
        calls = [begin(0, 1, block((1, 2, 3, 4), 2, 5, ((6, 7),))), task(0, 0), task(1, 0, rank=1, most=2), task(2, 0),
                 task(3, 0, main=0), task(4, 0, rank=2), tick(0), report(2, 9, 90), report(4, 8, 91), tick(100),
                 task(5, 100)]
        for refused in (begin(300, 4), begin(-1, 0), begin(LAST_TIME + 1, 1, block()),
                        task(0, 300), task(16, 300), task(6, 300, rank=3), task(6, 99), task(6, LAST_TIME + 1),
                        report(1, 1, 300), report(3, 1, 300), report(5, 1, 300), report(6, 1, 300), report(0, 1, 99),
                        report(0, 65536, 300), tick(99), tick(LAST_TIME + 1), tick(-1), ask(0, 300), ask(4, 300),
                        ask(6, 300), ask(1, 99), ask(16, 300), halt(1, 300), halt(3, 300), halt(5, 300), halt(6, 300),
                        halt(0, 99), halt(-1, 300), halt(0, LAST_TIME + 1), look(6), look(16)):
            self.assertLess(last(*calls, refused)[0], 0, refused)
            self.assertEqual(len(last(*calls, refused)), 1, refused)
            self.assertEqual(all_that_is_told(*calls, refused), all_that_is_told(*calls), refused)
            self.assertEqual(answered(*calls, refused, tick(101), tick(250))[-2:],
                             answered(*calls, tick(101), tick(250))[-2:], refused)
