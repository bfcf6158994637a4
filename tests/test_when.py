"""The call when: the day on which a slip is served at the latest."""

import unittest

from tests.helper import LAST_DAY, ask, back, drop, last, run, slip, slips, when


class OneFile(unittest.TestCase):
    row = [ask(10, 1, 5, [1]), ask(11, 2, 7, [1])]

    def test_the_day_when_the_file_is_due(self):
        self.assertEqual(last(*self.row, when(11, 1, 11)), [0, 15])

    def test_from_later_days_on(self):
        told = run(self.row + [when(11, 1, x) for x in (11, 12, 14, 15, 16, 40, LAST_DAY)])
        self.assertEqual(told[2:], [[0, 15], [0, 15], [0, 15], [0, 15], [0, 16], [0, 40], [0, LAST_DAY]])

    def test_what_is_overdue_comes_back_on_x(self):
        told = run(self.row + [when(k, 1, k) for k in (14, 15, 16, 40, LAST_DAY)])
        self.assertEqual(told[2:], [[0, 15], [0, 15], [0, 16], [0, 40], [0, LAST_DAY]])

    def test_x_is_not_before_k(self):
        told = run(self.row + [when(11, 1, 10), when(11, 1, 0), when(12, 1, 11), when(12, 1, 12), when(12, 1, 13)])
        self.assertEqual(told[2:], [[-3], [-3], [-3], [0, 15], [0, 15]])

    def test_the_last_entrys_day_does_not_bound_x(self):
        row = self.row + [ask(50, 3, 1, [9])]
        self.assertEqual(run(row + [when(11, 1, 11), when(11, 1, 12), when(49, 1, 49), when(50, 1, 50)])[3:],
                         [[0, 15], [0, 15], [0, 49], [0, 50]])


class Rows(unittest.TestCase):
    def test_one_behind_another(self):
        row = [ask(10, 1, 5, [1])] + [ask(10, 2, days, [1]) for days in (3, 8, 2, 9)]
        self.assertEqual(run(row + [when(10, q, 10) for q in range(1, 5)])[5:], [[0, 15], [0, 18], [0, 26], [0, 28]])
        self.assertEqual(run(row + [when(10, q, 17) for q in range(1, 5)])[5:], [[0, 17], [0, 20], [0, 28], [0, 30]])

    def test_by_a_file_that_a_slip_served_later_on_has(self):
        row = [ask(1, 1, 10, [1]), ask(1, 2, 3, [1, 2]), ask(1, 3, 4, [2, 3]), ask(1, 4, 5, [3])]
        self.assertEqual(run(row + [when(1, q, 1) for q in (1, 2, 3)])[4:], [[0, 11], [0, 14], [0, 18]])

    def test_the_last_of_several_files_counts(self):
        row = [ask(1, 1, 10, [1]), ask(1, 2, 3, [2]), ask(1, 3, 6, [3]), ask(1, 4, 5, [1, 2, 3]), ask(1, 5, 5, [2, 3])]
        self.assertEqual(run(row + [when(1, 3, 1), when(1, 4, 1)])[5:], [[0, 11], [0, 16]])

    def test_two_rows_that_meet(self):
        row = [ask(1, 1, 2, [1]), ask(1, 2, 9, [2]), ask(1, 3, 20, [1]), ask(1, 4, 3, [2]), ask(1, 5, 1, [1, 2]),
               ask(1, 6, 1, [1]), ask(1, 7, 1, [2])]
        self.assertEqual(run(row + [when(1, q, 1) for q in range(2, 7)])[7:],
                         [[0, 3], [0, 10], [0, 23], [0, 24], [0, 24]])

    def test_one_that_is_due_earlier_but_stands_behind_is_not_ahead(self):
        # File 2 is back on day 2, but slip 2, which wants it too, waits for file 1 until day 31.
        row = [ask(1, 1, 30, [1]), ask(1, 2, 1, [2]), ask(1, 3, 4, [1, 2]), ask(1, 4, 1, [2])]
        self.assertEqual(run(row + [when(1, 2, 1), when(1, 3, 1)])[4:], [[0, 31], [0, 35]])

    def test_later_slips_are_not_in_the_way(self):
        row = [ask(1, 1, 5, [1]), ask(1, 2, 5, [1]), ask(1, 3, 100, [1]), ask(1, 4, 100, [1])]
        self.assertEqual(last(*row, when(1, 1, 1)), [0, 6])

    def test_others_files_are_not_in_the_way(self):
        row = [ask(1, 1, 5, [1]), ask(1, 2, 100, [2]), ask(1, 3, 100, [2]), ask(1, 4, 100, [1])]
        self.assertEqual(last(*row, when(1, 3, 1)), [0, 6])

    def test_a_slip_may_hold_up_two_that_do_not_meet(self):
        row = [ask(1, 1, 5, [1]), ask(1, 2, 7, [1, 2, 3]), ask(1, 3, 5, [2]), ask(1, 4, 5, [3]), ask(1, 5, 5, [2, 3])]
        self.assertEqual(run(row + [when(1, q, 1) for q in range(1, 5)])[5:], [[0, 6], [0, 13], [0, 13], [0, 18]])


class OnOneDay(unittest.TestCase):
    def test_several_files_that_come_back_on_one_day(self):
        row = [ask(1, 1, 5, [1, 2]), ask(2, 2, 4, [3]), ask(2, 3, 9, [1, 3]), ask(2, 4, 9, [2]), ask(2, 5, 9, [3])]
        self.assertEqual(run(row + [when(2, q, 2) for q in (2, 3, 4)])[5:], [[0, 6], [0, 6], [0, 15]])

    def test_all_that_is_overdue_comes_back_on_x_at_once(self):
        row = [ask(1, 1, 5, [1]), ask(1, 2, 9, [2]), ask(1, 3, 30, [3]), ask(1, 4, 2, [1, 2]), ask(1, 5, 2, [1, 3]),
               ask(1, 6, 2, [2])]
        self.assertEqual(run(row + [when(20, q, 20) for q in (3, 4, 5)])[6:], [[0, 20], [0, 31], [0, 22]])
        self.assertEqual(run(row + [when(20, q, 40) for q in (3, 4, 5)])[6:], [[0, 40], [0, 42], [0, 42]])

    def test_many_are_served_on_one_day(self):
        row = [ask(1, 1, 5, range(8))] + [ask(1, 2, 3, [f]) for f in range(8)] + [ask(1, 3, 1, range(8))]
        self.assertEqual(run(row + [when(1, q, 1) for q in range(1, 10)])[10:], [[0, 6]] * 8 + [[0, 9]])

    def test_what_is_served_then_comes_back_on_its_day_with_others(self):
        row = [ask(1, 1, 5, [1]), ask(1, 2, 9, [2]), ask(1, 3, 4, [1]), ask(1, 4, 7, [1, 2]), ask(1, 5, 7, [2])]
        self.assertEqual(run(row + [when(1, q, 1) for q in (2, 3, 4)])[5:], [[0, 6], [0, 10], [0, 17]])


class WhatIsKnown(unittest.TestCase):
    def test_a_withdrawn_slip_is_not_in_the_way(self):
        row = [ask(1, 1, 5, [1]), ask(1, 2, 8, [1]), ask(1, 3, 5, [1]), drop(3, 1)]
        self.assertEqual(run(row + [when(2, 2, 3), when(3, 2, 3)])[4:], [[0, 14], [0, 6]])

    def test_a_file_that_is_back_is_not_in_the_way(self):
        row = [ask(1, 1, 9, [1, 2]), ask(1, 2, 5, [3]), ask(1, 3, 5, [2, 3]), back(3, 2)]
        self.assertEqual(run(row + [when(2, 2, 3), when(3, 2, 3)])[4:], [[0, 10], [0, 6]])

    def test_what_is_back_of_the_slips_before_counts(self):
        row = [ask(1, 1, 9, [1, 2]), ask(1, 2, 5, [1]), ask(1, 3, 5, [1, 2]), back(3, 1)]
        self.assertEqual(run(row + [when(2, 2, 2), when(3, 2, 3), when(3, 1, 3)])[4:], [[0, 15], [0, 10], [-5]])

    def test_later_entries_are_not_looked_at(self):
        row = [ask(1, 1, 5, [1]), ask(2, 2, 5, [1])]
        more = [back(20, 1), ask(21, 3, 9, [1]), back(22, 1), back(23, 1)]
        for many in range(len(more) + 1):
            with self.subTest(many=many):
                told = run(row + more[:many] + [when(2, 1, 2), when(19, 1, 19), when(2, 1, 30), when(1, 1, 2)])
                self.assertEqual(told[2 + many:], [[0, 6], [0, 19], [0, 30], [-4]])
        self.assertEqual(run(row + more + [when(20, 1, 20), when(21, 2, 21), when(22, 2, 22)])[6:],
                         [[-5], [0, 25], [-5]])

    def test_it_leaves_the_object_as_it_was(self):
        row = [ask(1, 1, 5, [1]), ask(1, 2, 5, [1]), ask(1, 3, 5, [1])]
        view = [slip(50, q) for q in range(3)] + [when(1, 2, 1), when(40, 2, 50)]
        told = run(row + view + [when(1, 2, 1), when(40, 2, 50), when(1, 1, 30)] + view + [back(2, 1)])
        self.assertEqual(told[3:8], told[11:16])
        self.assertEqual(told[16], [1])


class Refused(unittest.TestCase):
    # Slip 0 is out, slip 1 done, slip 2 withdrawn, slip 3 waits.
    row = [ask(10, 1, 5, [1]), ask(10, 2, 5, [2]), ask(11, 3, 5, [1, 2]), drop(12, 2), back(13, 2), ask(14, 4, 5, [1])]

    def test_one_that_does_not_wait(self):
        told = run(self.row + [when(14, q, 14) for q in range(5)])
        self.assertEqual(told[6:], [[-5], [-5], [-5], [0, 15], [-4]])

    def test_one_that_is_not_known(self):
        told = run(self.row + [when(13, 3, 14), when(0, 0, 0), when(9, 0, 20), when(10, 2, 20), when(11, 2, 20)])
        self.assertEqual(told[6:], [[-4], [-4], [-4], [-4], [0, 20]])

    def test_x_before_k_comes_first(self):
        told = run(self.row + [when(14, q, 13) for q in (0, 1, 2, 3, 4, 64, 4294967295)] + [when(LAST_DAY, 3, 0)])
        self.assertEqual(told[6:], [[-3]] * 8)
        self.assertEqual(last(when(1, 0, 0)), [-3])

    def test_too_high_a_day_comes_before_all(self):
        over = LAST_DAY + 1
        told = run(self.row + [when(over, q, x) for q in (0, 3, 4) for x in (0, 14, LAST_DAY, over)]
                   + [when(k, q, over) for q in (0, 3, 4) for k in (0, 14, LAST_DAY)])
        self.assertEqual(told[6:], [[-1]] * 21)


class LastDays(unittest.TestCase):
    def test_the_answer_may_lie_above_the_last_day(self):
        row = [ask(LAST_DAY, 1, 1000, [1]), ask(LAST_DAY, 2, 1000, [1]), ask(LAST_DAY, 3, 1, [1])]
        told = run(row + [when(LAST_DAY, 1, LAST_DAY), when(LAST_DAY, 2, LAST_DAY)])
        self.assertEqual(told[3:], [[0, LAST_DAY + 1000], [0, LAST_DAY + 2000]])

    def test_64_slips_one_behind_another(self):
        row = slips(64)
        self.assertEqual(run(row + [when(0, q, 0) for q in range(1, 64)])[64:], [[0, 5 * q] for q in range(1, 64)])
        self.assertEqual(last(*row, when(0, 63, 9)), [0, 9 + 5 * 62])
        self.assertEqual(last(*row, when(LAST_DAY, 63, LAST_DAY)), [0, LAST_DAY + 5 * 62])

    def test_64_slips_one_behind_another_played_out(self):
        row = slips(64)
        foretold = run(row + [when(0, q, 9) for q in range(1, 64)])[64:]
        played = row + [back(9 + 5 * number, 7) for number in range(63)]
        told = run(played + [slip(LAST_DAY, q) for q in range(1, 64)])
        self.assertEqual(told[64:127], [[1]] * 63)
        self.assertEqual([[0, answer[2]] for answer in told[127:]], foretold)

    def test_64_slips_each_over_another_file(self):
        row = [ask(0, 1, 1000, [number, number + 1]) for number in range(64)]
        self.assertEqual(last(*row, when(0, 63, 0)), [0, 63000])
        self.assertEqual(last(*row, when(0, 63, LAST_DAY)), [0, LAST_DAY + 62000])

    def test_64_slips_of_eight_files(self):
        row = [ask(7, 1, 1 + number, range(8)) for number in range(64)]
        self.assertEqual(last(*row, when(7, 63, 7)), [0, 7 + sum(range(1, 64))])
