"""The call waits: the slips that keep one from being served."""

import unittest

from tests.helper import ask, back, drop, last, run, waits


class WhoKeepsIt(unittest.TestCase):
    def test_one_that_has_a_file_of_its(self):
        self.assertEqual(last(ask(1, 1, 5, [1]), ask(1, 2, 5, [1]), waits(1, 1)), [1, 0])

    def test_one_that_has_several_of_its_files_is_told_once(self):
        self.assertEqual(last(ask(1, 1, 5, [1, 2, 3]), ask(1, 2, 5, [1, 2, 3]), waits(1, 1)), [1, 0])

    def test_several_that_have_its_files(self):
        row = [ask(1, 1, 5, [7]), ask(1, 2, 5, [5]), ask(1, 3, 5, [6]), ask(1, 4, 5, [3]), ask(1, 5, 5, [3, 5, 7])]
        self.assertEqual(last(*row, waits(1, 4)), [3, 0, 1, 3])

    def test_an_earlier_one_that_waits_though_the_file_is_in(self):
        told = run([ask(1, 1, 5, [1]), ask(1, 2, 5, [1, 2]), ask(1, 3, 5, [2]), waits(1, 2), waits(1, 1)])
        self.assertEqual(told[3:], [[1, 1], [1, 0]])

    def test_both(self):
        row = [ask(1, 1, 5, [1]), ask(1, 2, 5, [1]), ask(1, 3, 5, [1])]
        self.assertEqual(last(*row, waits(1, 2)), [2, 0, 1])

    def test_both_over_different_files(self):
        row = [ask(1, 1, 5, [9]), ask(1, 2, 5, [2, 9]), ask(1, 3, 5, [1]), ask(1, 4, 5, [1, 2])]
        self.assertEqual(last(*row, waits(1, 3)), [2, 1, 2])

    def test_the_one_that_waits_may_stand_before_the_one_that_has(self):
        row = [ask(1, 1, 5, [9]), ask(1, 2, 5, [4, 9]), ask(1, 3, 5, [1]), ask(1, 4, 5, [9]), ask(1, 5, 5, [1, 4])]
        self.assertEqual(last(*row, waits(1, 4)), [2, 1, 2])

    def test_only_straight_and_not_through_others(self):
        row = [ask(1, 1, 5, [1]), ask(1, 2, 5, [1, 2]), ask(1, 3, 5, [2, 3]), ask(1, 4, 5, [3])]
        self.assertEqual(run(row + [waits(1, q) for q in (1, 2, 3)])[4:], [[1, 0], [1, 1], [1, 2]])

    def test_one_that_has_some_of_its_files_back(self):
        row = [ask(1, 1, 5, [1, 2]), ask(1, 2, 5, [1, 2]), back(2, 1)]
        self.assertEqual(run(row + [waits(2, 1), waits(1, 1)])[3:], [[1, 0], [1, 0]])

    def test_one_that_has_brought_back_what_it_wants_keeps_it_no_longer(self):
        row = [ask(1, 1, 5, [1, 2]), ask(1, 2, 5, [3]), ask(1, 3, 5, [1, 3]), back(2, 1)]
        self.assertEqual(run(row + [waits(1, 2), waits(2, 2)])[4:], [[2, 0, 1], [1, 1]])

    def test_all_that_wait_for_one_file(self):
        row = [ask(1, 1, 5, [1]) for number in range(64)]
        self.assertEqual(last(*row, waits(1, 63)), [63] + list(range(63)))
        self.assertEqual(last(*row, waits(1, 1)), [1, 0])

    def test_the_same_reader_too(self):
        self.assertEqual(last(ask(1, 1, 5, [1]), ask(1, 1, 5, [1]), waits(1, 1)), [1, 0])


class WhoDoesNot(unittest.TestCase):
    def test_itself_and_later_ones(self):
        row = [ask(1, 1, 5, [1]), ask(1, 2, 5, [1, 2]), ask(1, 3, 5, [1, 2]), ask(1, 4, 5, [2])]
        self.assertEqual(run(row + [waits(1, q) for q in (1, 2, 3)])[4:], [[1, 0], [2, 0, 1], [2, 1, 2]])

    def test_one_with_other_files(self):
        row = [ask(1, 1, 5, [1]), ask(1, 2, 5, [2]), ask(1, 3, 5, [2]), ask(1, 4, 5, [1])]
        self.assertEqual(run(row + [waits(1, 2), waits(1, 3)])[4:], [[1, 1], [1, 0]])

    def test_one_that_is_done(self):
        row = [ask(1, 1, 5, [1]), back(2, 1), ask(3, 2, 5, [1]), ask(3, 3, 5, [1])]
        self.assertEqual(last(*row, waits(3, 2)), [1, 1])

    def test_one_that_is_withdrawn(self):
        row = [ask(1, 1, 5, [1]), ask(1, 2, 5, [1]), ask(1, 3, 5, [1]), drop(2, 1)]
        self.assertEqual(run(row + [waits(1, 2), waits(2, 2)])[4:], [[2, 0, 1], [1, 0]])


class NotWaiting(unittest.TestCase):
    # Slip 0 is out, slip 1 done, slip 2 withdrawn, slip 3 out with some of its files, slip 4 waits.
    row = [ask(10, 1, 5, [1]), ask(10, 2, 5, [2]), ask(11, 3, 5, [1, 2]), drop(12, 2), back(13, 2),
           ask(14, 4, 5, [2, 3]), back(15, 3), ask(16, 5, 5, [1, 2, 3])]

    def test_by_the_last_entrys_day(self):
        told = run(self.row + [waits(16, q) for q in range(6)])
        self.assertEqual(told[8:], [[-5], [-5], [-5], [-5], [2, 0, 3], [-4]])

    def test_by_days_after_the_last_entrys(self):
        for k in (17, 1000, 292193):
            told = run(self.row + [waits(k, q) for q in range(6)])
            self.assertEqual(told[8:], [[-5], [-5], [-5], [-5], [2, 0, 3], [-4]])

    def test_by_earlier_days(self):
        told = run(self.row + [waits(k, 2) for k in (9, 10, 11, 12, 13)] + [waits(k, 4) for k in (15, 16)])
        self.assertEqual(told[8:], [[-4], [-4], [2, 0, 1], [-5], [-5], [-4], [2, 0, 3]])

    def test_whom_it_waited_for_before_it_was_served(self):
        row = [ask(1, 1, 5, [1]), ask(2, 2, 5, [2]), ask(3, 3, 5, [1, 2]), ask(4, 4, 5, [2]), back(5, 1), back(6, 2),
               back(7, 1), back(8, 2)]
        told = run(row + [waits(k, 2) for k in range(2, 9)] + [waits(k, 3) for k in range(3, 9)])
        self.assertEqual(told[8:15], [[-4], [2, 0, 1], [2, 0, 1], [1, 1], [-5], [-5], [-5]])
        self.assertEqual(told[15:], [[-4], [2, 1, 2], [2, 1, 2], [1, 2], [1, 2], [-5]])
