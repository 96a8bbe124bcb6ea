import contextlib
import io
import unittest

from taskwatch.station import answers
from tests.helper import (ask, begin, block, halt, joined, keep, list_tasks, look, report, said, task, tick)

EVERY_CALL = joined([begin(0, 1, block(quick=2, doomed=4, crumbs=((1, 2),))), task(0, 0), task(1, 0, main=0), tick(0),
                     report(0, 7, 1), ask(1, 2), halt(0, 3), keep(), said(), look(0), look(1), list_tasks(),
                     begin(5, 0, block(quick=2)), keep(), said(), list_tasks(), look(0)])


class Layout(unittest.TestCase):
    def test_a_line(self):
        calls = begin(0, 1, block()) + task(3, 0) + tick(0) + report(3, 9, 4) + tick(3) + report(4, 0, 4) + tick(4)
        self.assertEqual(answers(calls), [1, 1, 1, 0, 5, 0, 2, 0, 3, 4, 1, 0, 1, -4, 1, -2, 3, 0, 1, 4])

    def test_a_line_of_the_other_calls(self):
        calls = [0, 0, 5, 0, 1, 3, 100, 0, 1, 1000, 10, 1, 5, 3, 5, 8, 3, 9, 7, 6, 5, 3, 6, 8, 3, 8, 4]
        octets = block((1, 0, 0, 0))
        self.assertEqual(answers(calls), [1, 0, 1, 0, 5, 0, 2, 0, 3, 4, 8, 0, 1, 5, 5, 0, 0, 10, 0, 3, 0, 1, 3,
                                          11, 0, 0, 0, 0, 1, 0, 0, 0, 0, 0, 0, 50, 0, *octets, 4, 0, 1, 1, 3,
                                          8, 0, 2, 0, 5, 0, 0, 10, 0, 1, -2])

    def test_one_call(self):
        self.assertEqual(answers([0, 0, 0, 0]), [1, 0])
        for call in (task(0, 0), report(0, 0, 0), tick(0), ask(0, 0), halt(0, 0), keep(), said(), look(0), list_tasks()):
            self.assertEqual(answers(call), [1, -4], call)

    def test_rows_of_any_length(self):
        for size in (0, 1, 48, 49, 50, 99, 100):
            self.assertEqual(answers(begin(0, 0, [3] * size) + tick(0)), [1, 0, 3, 0, 1, 4], size)

    def test_whole_numbers_alone(self):
        late = joined([begin(0, 1, block()), task(0, 0), tick(0), tick(100), look(0), report(0, 1, 100), begin(1), tick(0)])
        for given in (late, EVERY_CALL):
            found = answers(given)
            self.assertIs(type(found), list)
            self.assertEqual({type(number) for number in found}, {int})

    def test_three_hundred_calls(self):
        calls = begin(0) + joined([tick(now) for now in range(299)])
        self.assertEqual(answers(calls), [1, 0] + [3, 0, 1, 4] * 299)

    def test_three_hundred_begins_in_sixteen_thousand_numbers(self):
        calls = joined([begin(0, 0, block())] * 300)
        self.assertLessEqual(len(calls), 16000)
        self.assertEqual(answers(calls), [1, 1] * 300)

    def test_three_hundred_keeps(self):
        self.assertEqual(answers(begin(0) + keep() * 299), [1, 0] + [50, 0, *block((1, 0, 0, 0))] * 299)


class NothingIsLeftBehind(unittest.TestCase):
    def test_what_is_handed_in_stays(self):
        calls = list(EVERY_CALL)
        answers(calls)
        self.assertEqual(calls, EVERY_CALL)

    def test_not_for_a_while_either(self):
        class Watched(list):
            def refuse(self, *given):
                raise AssertionError("what is handed in is changed")

            __setitem__ = __delitem__ = __iadd__ = __imul__ = append = extend = insert = pop = remove = refuse
            clear = reverse = sort = refuse

        self.assertEqual(answers(Watched(EVERY_CALL)), answers(EVERY_CALL))

    def test_what_is_given_back_is_not_kept(self):
        first = answers(EVERY_CALL)
        copy = list(first)
        first.clear()
        self.assertEqual(answers(EVERY_CALL), copy)

    def test_nothing_is_printed(self):
        out, err = io.StringIO(), io.StringIO()
        with contextlib.redirect_stdout(out), contextlib.redirect_stderr(err):
            answers(EVERY_CALL)
        self.assertEqual((out.getvalue(), err.getvalue()), ("", ""))

    def test_twice_the_same(self):
        self.assertEqual(answers(EVERY_CALL), answers(EVERY_CALL))

    def test_each_time_as_if_for_the_first(self):
        self.assertEqual(answers(begin(5) + task(0, 5)), [1, 0, 1, 0])
        self.assertEqual(answers(tick(5)), [1, -4])
        self.assertEqual(answers(begin(0) + task(0, 0)), [1, 0, 1, 0])
