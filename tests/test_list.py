import unittest

from tests.helper import answered, ask, begin, block, halt, last, list_tasks, task, tick


class List(unittest.TestCase):
    def test_no_task(self):
        self.assertEqual(last(begin(0), list_tasks()), [0, 0])

    def test_the_lesser_first(self):
        for order in ((3, 0, 15, 7), (15, 7, 3, 0), (0, 3, 7, 15), (7, 15, 0, 3)):
            calls = [task(k, 0) for k in order]
            self.assertEqual(last(begin(0), *calls, list_tasks()), [0, 4, 0, 3, 7, 15], order)
        self.assertEqual(last(begin(0), task(9, 0), task(10, 0), task(2, 0), list_tasks()), [0, 3, 2, 9, 10])

    def test_sixteen(self):
        calls = [task(k * 7 % 16, 0) for k in range(16)]
        self.assertEqual(last(begin(0), *calls, list_tasks()), [0, 16, *range(16)])

    def test_as_they_are_added(self):
        self.assertEqual(answered(begin(0), list_tasks(), task(5, 0), list_tasks(), task(4, 0), list_tasks())[1::2],
                         [[0, 0], [0, 1, 5], [0, 2, 4, 5]])

    def test_a_refused_task_is_not_there(self):
        self.assertEqual(last(begin(5), task(1, 4), task(2, 5, rank=3), task(16, 5), task(0, 5), task(0, 5), list_tasks()),
                         [0, 1, 0])

    def test_whatever_their_phase(self):
        standing = task(1, 0, main=0)
        calls = [begin(0, 0, block(quick=3)), standing, task(3, 0), task(2, 0), tick(0), halt(2, 0), task(0, 0)]
        self.assertEqual(last(*calls, list_tasks()), [0, 4, 0, 1, 2, 3])
        given_up = [begin(0), task(4, 0, rank=1), tick(0), tick(100), tick(110), tick(210)]
        self.assertEqual(last(*given_up, list_tasks()), [0, 1, 4])
        self.assertEqual(last(*given_up, ask(4, 210), list_tasks()), [0, 1, 4])

    def test_none_is_left_by_a_new_beginning(self):
        self.assertEqual(last(begin(0), task(1, 0), begin(0), list_tasks()), [0, 0])
        self.assertEqual(last(begin(0), task(1, 0), begin(0, 4), list_tasks()), [0, 1, 1])

    def test_not_begun(self):
        self.assertEqual(answered(list_tasks(), begin(0, 4), list_tasks(), begin(-1), list_tasks()),
                         [[-4], [-1], [-4], [-1], [-4]])

    def test_it_changes_nothing(self):
        self.assertEqual(answered(begin(5), task(1, 7), list_tasks(), list_tasks(), tick(6), task(1, 7), tick(7))[2:],
                         [[0, 1, 1], [0, 1, 1], [-4], [-4], [0, 2, 0, 1, 4]])
