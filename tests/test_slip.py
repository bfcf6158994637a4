"""The calls slip and files: a slip in each state, by days before, on and after the change."""

import unittest

from tests.helper import ask, back, drop, files_of, last, run, slip


class Waiting(unittest.TestCase):
    row = [ask(10, 1, 5, [1]), ask(12, 77, 9, [1, 2, 4])]

    def test_it_waits_and_was_not_served(self):
        self.assertEqual(last(*self.row, slip(12, 1)), [0, 12, -1, 9, 77, 0])

    def test_it_waits_by_every_later_day(self):
        for k in (13, 15, 16, 1000, 292193):
            with self.subTest(k=k):
                self.assertEqual(last(*self.row, slip(k, 1)), [0, 12, -1, 9, 77, 0])

    def test_it_is_not_there_before_it_was_asked_for(self):
        for k in (0, 9, 10, 11):
            with self.subTest(k=k):
                self.assertEqual(last(*self.row, slip(k, 1)), [-4])

    def test_a_file_of_its_that_another_slip_brought_back_is_not_back_of_it(self):
        told = run([ask(1, 1, 5, [1, 2]), ask(1, 2, 5, [1, 2]), back(2, 1), slip(2, 1), slip(2, 0)])
        self.assertEqual(told[3:], [[0, 1, -1, 5, 2, 0], [0, 1, 1, 5, 1, 1, 1]])


class Out(unittest.TestCase):
    row = [ask(10, 1, 5, [1]), ask(12, 77, 9, [1, 2, 4]), back(20, 1)]

    def test_served_on_another_day_than_asked_for(self):
        self.assertEqual(last(*self.row, slip(20, 1)), [0, 12, 20, 9, 77, 1])

    def test_served_on_the_day_it_was_asked_for(self):
        self.assertEqual(last(*self.row, slip(10, 0)), [0, 10, 10, 5, 1, 1])

    def test_before_on_and_after_the_serving(self):
        waiting, out = [0, 12, -1, 9, 77, 0], [0, 12, 20, 9, 77, 1]
        told = run(self.row + [slip(k, 1) for k in (11, 12, 19, 20, 21, 29, 30, 292193)])
        self.assertEqual(told[3:], [[-4], waiting, waiting, out, out, out, out, out])

    def test_overdue_it_is_still_out(self):
        self.assertEqual(last(*self.row, slip(292193, 1)), [0, 12, 20, 9, 77, 1])

    def test_some_files_back(self):
        told = run(self.row + [back(22, 2), slip(22, 1), back(23, 4), slip(23, 1), slip(22, 1), slip(21, 1)])
        self.assertEqual(told[4], [0, 12, 20, 9, 77, 1, 2])
        self.assertEqual(told[6:], [[0, 12, 20, 9, 77, 1, 2, 4], [0, 12, 20, 9, 77, 1, 2], [0, 12, 20, 9, 77, 1]])

    def test_a_file_that_is_back_stays_back_though_it_is_out_with_another(self):
        told = run([ask(1, 1, 5, [1, 2]), back(2, 1), ask(3, 2, 5, [1]), slip(3, 0), slip(3, 1)])
        self.assertEqual(told[3:], [[0, 1, 1, 5, 1, 1, 1], [0, 3, 3, 5, 2, 1]])

    def test_the_files_that_are_back_stand_in_their_order(self):
        files = [3, 8, 20, 100]
        told = run([ask(1, 6, 5, files), back(2, 100), back(3, 3), back(4, 20)] + [slip(k, 0) for k in (2, 3, 4)])
        self.assertEqual([answer[6:] for answer in told[4:]], [[100], [3, 100], [3, 20, 100]])

    def test_brought_back_on_one_day_from_the_last_to_the_first(self):
        told = run([ask(1, 6, 5, range(8))] + [back(2, f) for f in range(7, 0, -1)] + [slip(2, 0), slip(1, 0)])
        self.assertEqual(told[8:], [[0, 1, 1, 5, 6, 1, 1, 2, 3, 4, 5, 6, 7], [0, 1, 1, 5, 6, 1]])


class Done(unittest.TestCase):
    row = [ask(10, 5, 6, [2, 4, 9]), back(11, 9), back(13, 2), back(15, 4)]

    def test_all_files_back(self):
        self.assertEqual(last(*self.row, slip(15, 0)), [0, 10, 10, 6, 5, 2, 2, 4, 9])

    def test_before_on_and_after_each_change(self):
        told = run(self.row + [slip(k, 0) for k in (9, 10, 11, 12, 13, 14, 15, 16, 292193)])
        head = [0, 10, 10, 6, 5]
        done = head + [2, 2, 4, 9]
        self.assertEqual(told[4:], [
            [-4], head + [1], head + [1, 9], head + [1, 9], head + [1, 2, 9], head + [1, 2, 9], done, done, done,
        ])

    def test_done_on_the_day_when_it_was_asked_for(self):
        told = run([ask(3, 5, 6, [0]), back(3, 0), slip(3, 0), slip(2, 0)])
        self.assertEqual(told[2:], [[0, 3, 3, 6, 5, 2, 0], [-4]])

    def test_done_it_stays_when_its_files_go_out_again(self):
        told = run([ask(3, 5, 6, [1]), back(4, 1), ask(5, 7, 6, [1]), slip(5, 0), slip(5, 1)])
        self.assertEqual(told[3:], [[0, 3, 3, 6, 5, 2, 1], [0, 5, 5, 6, 7, 1]])

    def test_the_same_file_back_of_several_slips(self):
        told = run([ask(1, 1, 5, [1]), ask(1, 2, 5, [1]), back(2, 1), back(4, 1),
                    slip(2, 0), slip(2, 1), slip(3, 1), slip(4, 1)])
        self.assertEqual(told[4:], [[0, 1, 1, 5, 1, 2, 1], [0, 1, 2, 5, 2, 1], [0, 1, 2, 5, 2, 1],
                                    [0, 1, 2, 5, 2, 2, 1]])


class Withdrawn(unittest.TestCase):
    row = [ask(10, 5, 6, [2]), ask(10, 7, 8, [2, 3]), drop(14, 1), back(15, 2)]

    def test_it_was_not_served(self):
        self.assertEqual(last(*self.row, slip(14, 1)), [0, 10, -1, 8, 7, 3])

    def test_before_on_and_after_the_withdrawal(self):
        told = run(self.row + [slip(k, 1) for k in (9, 10, 13, 14, 15, 292193)])
        waiting, gone = [0, 10, -1, 8, 7, 0], [0, 10, -1, 8, 7, 3]
        self.assertEqual(told[4:], [[-4], waiting, waiting, gone, gone, gone])

    def test_on_the_day_when_it_was_asked_for(self):
        self.assertEqual(last(ask(1, 1, 5, [1]), ask(1, 2, 5, [1]), drop(1, 1), slip(1, 1)), [0, 1, -1, 5, 2, 3])

    def test_who_is_served_by_it_is_out_from_that_day(self):
        row = [ask(1, 1, 5, [1]), ask(1, 2, 5, [1, 2]), ask(2, 3, 5, [2]), drop(4, 1)]
        told = run(row + [slip(3, 2), slip(4, 2)])
        self.assertEqual(told[4:], [[0, 2, -1, 5, 3, 0], [0, 2, 4, 5, 3, 1]])


class Files(unittest.TestCase):
    # Slip 0 is out with some of its files, slip 1 waits, slip 2 is withdrawn, slip 3 is done.
    row = [ask(10, 1, 5, [1, 2, 300]), ask(12, 2, 5, [1, 7]), ask(13, 3, 5, [0, 7, 8, 9]), drop(14, 2),
           ask(15, 4, 5, [16383]), back(16, 16383), back(17, 2)]

    def test_in_each_state(self):
        told = run(self.row + [files_of(17, q) for q in range(4)])
        self.assertEqual(told[7:], [[3, 1, 2, 300], [2, 1, 7], [4, 0, 7, 8, 9], [1, 16383]])

    def test_it_is_the_same_by_every_day_from_the_asking_on(self):
        for q, day, files in ((0, 10, [1, 2, 300]), (1, 12, [1, 7]), (2, 13, [0, 7, 8, 9]), (3, 15, [16383])):
            for k in (day, day + 1, 14, 16, 17, 18, 292193):
                if k >= day:
                    with self.subTest(q=q, k=k):
                        self.assertEqual(last(*self.row, files_of(k, q)), [len(files)] + files)

    def test_not_there_before_it_was_asked_for(self):
        for q, day in ((0, 10), (1, 12), (2, 13), (3, 15)):
            for k in (0, day - 1):
                with self.subTest(q=q, k=k):
                    self.assertEqual(last(*self.row, files_of(k, q)), [-4])

    def test_one_to_eight_files(self):
        for many in range(1, 9):
            files = [5 * f for f in range(many)]
            with self.subTest(many=many):
                self.assertEqual(last(ask(0, 1, 1, files), files_of(0, 0)), [many] + files)

    def test_what_is_told_is_not_changed_by_being_told(self):
        told = run(self.row + [files_of(17, 0), files_of(17, 0), slip(17, 0), files_of(17, 0)])
        self.assertEqual(told[7:], [[3, 1, 2, 300], [3, 1, 2, 300], [0, 10, 10, 5, 1, 1, 2], [3, 1, 2, 300]])
