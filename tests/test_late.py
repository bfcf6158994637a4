"""The call late: the files that are out and due before a day."""

import unittest

from tests.helper import LAST_DAY, ask, back, drop, last, late, run


class OneSlip(unittest.TestCase):
    row = [ask(10, 1, 5, [3, 8])]

    def test_none_on_the_day_when_it_is_due_all_one_day_later(self):
        told = run(self.row + [late(10, x) for x in (0, 9, 10, 14, 15, 16, 17, LAST_DAY)])
        self.assertEqual(told[1:], [[0]] * 5 + [[2, 3, 8]] * 3)

    def test_without_slips(self):
        self.assertEqual(run([late(0, 0), late(0, LAST_DAY), late(LAST_DAY, LAST_DAY), late(LAST_DAY, 0)]), [[0]] * 4)

    def test_x_before_on_and_after_k(self):
        told = run(self.row + [late(30, 15), late(30, 16), late(30, 30), late(30, 31), late(15, 15), late(16, 16)])
        self.assertEqual(told[1:], [[0], [2, 3, 8], [2, 3, 8], [2, 3, 8], [0], [2, 3, 8]])

    def test_by_a_day_before_it_was_served_it_is_not_out(self):
        row = [ask(10, 1, 5, [3]), ask(10, 2, 4, [3, 8]), back(20, 3)]
        told = run(row + [late(9, 1000), late(10, 1000), late(19, 1000), late(20, 24), late(20, 25), late(20, 1000)])
        self.assertEqual(told[3:], [[0], [1, 3], [1, 3], [0], [2, 3, 8], [2, 3, 8]])

    def test_due_counts_from_the_serving(self):
        row = [ask(10, 1, 5, [3]), ask(10, 2, 5, [3]), back(20, 3)]
        self.assertEqual(run(row + [late(20, 16), late(20, 25), late(20, 26)])[3:], [[0], [0], [1, 3]])

    def test_what_is_back_is_not_late(self):
        row = self.row + [back(18, 3), back(20, 8)]
        told = run(row + [late(k, 30) for k in (10, 17, 18, 19, 20, 21)])
        self.assertEqual(told[3:], [[2, 3, 8], [2, 3, 8], [1, 8], [1, 8], [0], [0]])

    def test_what_waits_or_is_withdrawn_is_not_late(self):
        row = [ask(10, 1, 5, [3]), ask(10, 2, 1, [3, 4]), ask(10, 3, 1, [4]), drop(11, 1), ask(12, 4, 1, [3])]
        self.assertEqual(run(row + [late(10, 90), late(12, 90)])[5:], [[1, 3], [2, 4, 3]])


class Several(unittest.TestCase):
    def test_of_one_day_by_their_numbers_whatever_the_order_of_the_slips(self):
        row = [ask(10, 1, 5, [7, 9]), ask(11, 2, 4, [2, 8]), ask(12, 3, 3, [1, 12])]
        self.assertEqual(run(row + [late(12, 15), late(12, 16)])[3:], [[0], [6, 1, 2, 7, 8, 9, 12]])

    def test_by_the_days_when_they_were_due(self):
        row = [ask(10, 1, 9, [1, 4]), ask(10, 2, 5, [3, 6]), ask(10, 3, 7, [2, 5])]
        told = run(row + [late(10, x) for x in (15, 16, 17, 18, 19, 20)])
        self.assertEqual(told[3:], [[0], [2, 3, 6], [2, 3, 6], [4, 3, 6, 2, 5], [4, 3, 6, 2, 5],
                                    [6, 3, 6, 2, 5, 1, 4]])

    def test_by_days_and_then_by_numbers(self):
        row = [ask(10, 1, 9, [5, 8]), ask(10, 2, 4, [9]), ask(10, 3, 9, [4, 6]), ask(14, 4, 5, [0]),
               ask(15, 5, 1, [2]), ask(15, 6, 2, [1])]
        self.assertEqual(last(*row, late(15, 100)), [8, 9, 2, 1, 0, 4, 5, 6, 8])

    def test_numbers_and_days_of_different_lengths(self):
        row = [ask(0, 1, 100, [2, 10, 9000]), ask(0, 2, 20, [3, 11]), ask(0, 3, 9, [1, 100])]
        self.assertEqual(last(*row, late(0, 200)), [7, 1, 100, 3, 11, 2, 10, 9000])

    def test_partly_back(self):
        row = [ask(10, 1, 5, [1, 2, 3]), ask(10, 2, 3, [4, 5]), back(20, 2), back(20, 4)]
        self.assertEqual(run(row + [late(20, 20), late(19, 20)])[4:], [[3, 5, 1, 3], [5, 4, 5, 1, 2, 3]])

    def test_a_file_that_went_on_is_late_by_its_new_slip(self):
        row = [ask(10, 1, 5, [1, 2]), ask(11, 2, 7, [1]), back(20, 1)]
        told = run(row + [late(19, 20), late(20, 20), late(20, 27), late(20, 28)])
        self.assertEqual(told[3:], [[2, 1, 2], [1, 2], [1, 2], [2, 2, 1]])

    def test_all_the_files_of_64_slips(self):
        row = [ask(0, 1, 1 + number % 3, range(8 * number, 8 * number + 8)) for number in range(64)]
        expected = [f for rest in range(3) for number in range(rest, 64, 3) for f in range(8 * number, 8 * number + 8)]
        self.assertEqual(last(*row, late(0, 4)), [512] + expected)


class LastDays(unittest.TestCase):
    def test_due_on_and_around_the_last_day(self):
        for day, days, answer in ((LAST_DAY - 2, 1, [1, 5]), (LAST_DAY - 1, 1, [0]), (LAST_DAY, 1, [0]),
                                  (LAST_DAY, 1000, [0])):
            with self.subTest(day=day, days=days):
                self.assertEqual(last(ask(day, 1, days, [5]), late(LAST_DAY, LAST_DAY)), answer)

    def test_bounds(self):
        row = [ask(0, 1, 1, [5])]
        told = run(row + [late(0, LAST_DAY), late(0, LAST_DAY + 1), late(LAST_DAY, 2), late(LAST_DAY + 1, 2),
                          late(LAST_DAY + 1, LAST_DAY + 1), late(0, 4294967295), late(4294967295, 0)])
        self.assertEqual(told[1:], [[1, 5], [-1], [1, 5], [-1], [-1], [-1], [-1]])
