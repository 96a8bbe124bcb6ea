import unittest

from tests.helper import LAST_TIME, answered, ask, begin, last, report, task, tick

GOOD = (task(0, 0), report(0, 0, 0), tick(0), ask(0, 0))
OUT_OF_RANGE = (task(16, 0), report(0, 65536, 0), tick(-1), ask(-1, 0))


class Order(unittest.TestCase):
    def test_not_begun_comes_first(self):
        for call in GOOD + OUT_OF_RANGE:
            self.assertEqual(answered(call), [[-4]], call)
            self.assertEqual(answered(call, call, begin(0), tick(0)), [[-4], [-4], [0], [0, 1, 4]], call)

    def test_then_the_ranges(self):
        begun = [begin(10), task(0, 10), tick(10)]
        for call in (task(0, 9, main=2), task(16, 9), task(0, LAST_TIME + 1), task(0, -1), report(16, 0, 9),
                     report(1, -1, 9), report(0, 65536, 9), report(1, 0, -1), tick(-1), ask(-1, 9), ask(1, -1),
                     ask(0, LAST_TIME + 1)):
            self.assertEqual(last(*begun, call), [-1], call)

    def test_then_the_time(self):
        begun = [begin(10), task(0, 10), tick(10)]
        for call in (task(1, 9), task(0, 9), report(0, 0, 9), report(1, 0, 9), tick(9), ask(0, 9), ask(1, 9)):
            self.assertEqual(last(*begun, call), [-4], call)

    def test_then_whether_there_is_the_task(self):
        for call in (report(1, 0, 10), ask(1, 10), report(15, 65535, LAST_TIME), ask(15, LAST_TIME)):
            self.assertEqual(last(begin(10), task(0, 10), call), [-2], call)
            self.assertEqual(last(begin(10), call), [-2], call)

    def test_then_the_promise(self):
        begun = [begin(10), task(0, 10), tick(10)]
        self.assertEqual(last(*begun, task(0, 10)), [-4])
        self.assertEqual(last(*begun, ask(0, 10)), [-4])
        self.assertEqual(last(*begun[:2], report(0, 0, 10)), [-4])

    def test_begin_is_refused_by_its_ranges_alone(self):
        self.assertEqual(answered(begin(50), begin(10), begin(0, 4), begin(0, 3), begin(-1, 0), tick(0)),
                         [[0], [0], [-1], [0], [-1], [0, 1, 4]])
