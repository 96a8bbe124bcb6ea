import unittest

from tests.helper import (FED, LAST_TIME, LEAST_NUMBER, MOST_NUMBER, answered, ask, begin, block, last, report, task,
                          tick)

RANGES = {
    "k": (0, 15),
    "limit": (1, 86400000000),
    "rank": (0, 2),
    "most": (1, 16),
    "span": (1, 86400000000),
    "first": (1, 3600000000),
    "main": (0, 1),
    "now": (0, LAST_TIME),
}


class Task(unittest.TestCase):
    def answer_with(self, name, number):
        numbers = {"k": 0, "now": 0}
        numbers[name] = number
        return last(begin(0), task(**numbers))

    def test_ends_of_the_ranges(self):
        for name, (least, most) in RANGES.items():
            for number in (least, least + 1, most - 1, most):
                self.assertEqual(self.answer_with(name, number), [0], (name, number))
            for number in (LEAST_NUMBER, least - 1, most + 1, MOST_NUMBER):
                self.assertEqual(self.answer_with(name, number), [-1], (name, number))

    def test_all_sixteen(self):
        calls = [task(k, 0) for k in range(16)]
        starts = [number for k in range(16) for number in (0, k)]
        self.assertEqual(last(begin(0), *calls, tick(0)), [0, 17, *starts, 4])

    def test_it_waits_till_now(self):
        self.assertEqual(answered(begin(0), task(2, 7), report(2, 0, 7), tick(7), report(2, 0, 7)),
                         [[0], [0], [-4], [0, 2, 0, 2, 4], [0]])

    def test_there_is_one_of_this_number(self):
        self.assertEqual(answered(begin(0), task(2, 0, limit=5), task(2, 3, limit=1), task(1, 0), tick(0)),
                         [[0], [0], [-4], [0], [0, 3, 0, 1, 0, 2, 4]])
        self.assertEqual(answered(begin(0), task(2, 0, limit=5), tick(0), task(2, 0, limit=1), tick(4), tick(5))[3:],
                         [[-4], FED, [0, 2, 2, 2, 4]])

    def test_a_refusal_leaves_now(self):
        for refused in (task(2, 50, rank=3), task(0, 50), task(16, 50)):
            self.assertEqual(answered(begin(0), task(0, 5), refused, task(3, 4), task(3, 5))[3:], [[-4], [0]], refused)
        self.assertEqual(answered(begin(0), task(2, 50, rank=3), report(2, 0, 50))[1:], [[-1], [-2]])

    def test_now_goes_on(self):
        self.assertEqual(answered(begin(0), task(0, 50), tick(49), task(1, 49), task(1, 50))[2:], [[-4], [-4], [0]])

    def test_in_doubt(self):
        doubtful = begin(0, 1, block(quick=2))
        self.assertEqual(answered(doubtful, task(1, 0, main=0), task(0, 0, main=1), tick(0), tick(90), report(1, 0, 90)),
                         [[1], [0], [0], [0, 2, 0, 0, 4], FED, [-4]])
        self.assertEqual(answered(doubtful, task(1, 0, main=0), task(1, 0, main=0), ask(1, 5), tick(5)),
                         [[1], [0], [-4], [0], [0, 2, 0, 1, 4]])

    def test_without_doubt_main_makes_no_difference(self):
        for main in (0, 1):
            self.assertEqual(last(begin(0), task(1, 0, main=main), tick(0)), [0, 2, 0, 1, 4])
