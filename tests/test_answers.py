import unittest

from taskwatch.station import answers
from tests.helper import begin, block, joined, report, task, tick


class Layout(unittest.TestCase):
    def test_a_line(self):
        calls = begin(0, 1, block()) + task(3, 0) + tick(0) + report(3, 9, 4) + tick(3) + report(4, 0, 4) + tick(4)
        self.assertEqual(answers(calls), [1, 1, 1, 0, 5, 0, 2, 0, 3, 4, 1, 0, 1, -4, 1, -2, 3, 0, 1, 4])

    def test_one_call(self):
        self.assertEqual(answers([0, 0, 0, 0]), [1, 0])
        self.assertEqual(answers([3, 0]), [1, -4])

    def test_rows_of_any_length(self):
        for size in (0, 1, 48, 49, 50, 99, 100):
            self.assertEqual(answers(begin(0, 0, [3] * size) + tick(0)), [1, 0, 3, 0, 1, 4], size)

    def test_whole_numbers_alone(self):
        given = joined([begin(0, 1, block()), task(0, 0), tick(0), tick(100), report(0, 1, 100), begin(1), tick(0)])
        found = answers(given)
        self.assertIs(type(found), list)
        self.assertEqual({type(number) for number in found}, {int})

    def test_three_hundred_calls(self):
        calls = begin(0) + joined([tick(now) for now in range(299)])
        self.assertEqual(answers(calls), [1, 0] + [3, 0, 1, 4] * 299)

    def test_three_hundred_begins_in_sixteen_thousand_numbers(self):
        calls = joined([begin(0, 0, block())] * 300)
        self.assertLessEqual(len(calls), 16000)
        self.assertEqual(answers(calls), [1, 1] * 300)


class NothingIsLeftBehind(unittest.TestCase):
    def test_what_is_handed_in_stays(self):
        calls = begin(0, 1, block(crumbs=((1, 2),))) + task(0, 0) + tick(0) + report(0, 0, 0)
        copy = list(calls)
        answers(calls)
        self.assertEqual(calls, copy)

    def test_each_time_as_if_for_the_first(self):
        self.assertEqual(answers(begin(5) + task(0, 5)), [1, 0, 1, 0])
        self.assertEqual(answers(tick(5)), [1, -4])
        self.assertEqual(answers(begin(0) + task(0, 0)), [1, 0, 1, 0])
