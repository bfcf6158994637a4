"""Who is served behind which entry, and what is known by which day."""

import unittest

from tests.helper import (
    ask, asked, back, count, drop, files_of, last, late, run, slip, waits, when, whole_view, who,
)


class Served(unittest.TestCase):
    def test_a_slip_is_served_whole_or_not_at_all(self):
        told = run([ask(1, 1, 5, [2]), ask(1, 2, 5, [1, 2, 3]), who(1, 1), who(1, 2), who(1, 3), count(1)])
        self.assertEqual(told[2:], [[0], [1, 0, 1, 1, 6], [0], [2, 1]])

    def test_all_its_files_go_out_on_one_day(self):
        told = run([ask(1, 1, 5, [2]), ask(1, 2, 5, [1, 2, 3]), back(4, 2), who(4, 1), who(4, 2), who(4, 3)])
        self.assertEqual(told[2:], [[1]] + [[1, 1, 2, 4, 9]] * 3)

    def test_it_waits_until_the_last_of_its_files_is_in(self):
        told = run([ask(1, 1, 5, [1, 2, 3]), ask(1, 2, 5, [1, 2, 3]), back(2, 3), back(3, 1), back(4, 2)])
        self.assertEqual(told[2:], [[0], [0], [1]])

    def test_a_later_slip_with_other_files_need_not_wait(self):
        told = run([ask(1, 1, 5, [1]), ask(1, 2, 5, [1]), ask(1, 3, 5, [2]), count(1), who(1, 2)])
        self.assertEqual(told[3:], [[3, 1], [1, 2, 3, 1, 6]])

    def test_held_up_by_an_earlier_one_though_its_file_is_in(self):
        told = run([ask(1, 1, 5, [1]), ask(1, 2, 5, [1, 2]), ask(1, 3, 5, [2]), who(1, 2), count(1),
                    back(2, 1), who(2, 2), back(3, 1), back(3, 2), who(3, 2)])
        self.assertEqual(told[3:], [[0], [3, 2], [1], [1, 1, 2, 2, 7], [0], [1], [1, 2, 3, 3, 8]])

    def test_held_up_through_several_that_wait(self):
        told = run([ask(1, 1, 5, [1]), ask(1, 2, 5, [1, 2]), ask(1, 3, 5, [2, 3]), ask(1, 4, 5, [3, 4]),
                    ask(1, 5, 5, [4]), count(1), who(1, 4)])
        self.assertEqual(told[5:], [[5, 4], [0]])

    def test_an_earlier_slip_that_is_out_or_gone_keeps_nobody(self):
        told = run([ask(1, 1, 5, [1, 2]), ask(1, 2, 5, [1]), drop(2, 1), back(3, 2), ask(3, 3, 5, [2]), who(3, 2)])
        self.assertEqual(told[3:], [[0], [2], [1, 2, 3, 3, 8]])

    def test_a_later_slip_keeps_nobody(self):
        told = run([ask(1, 1, 5, [1]), ask(1, 2, 5, [1]), ask(1, 3, 5, [1, 2]), back(2, 1), who(2, 1)])
        self.assertEqual(told[3:], [[1], [1, 1, 2, 2, 7]])

    def test_in_order_of_numbers(self):
        told = run([ask(1, 9, 5, [1])] + [ask(1, reader, 5, [1]) for reader in range(1, 5)]
                   + [call for day in range(2, 6) for call in (back(day, 1), who(day, 1))])
        self.assertEqual(told[5:], [answer for number in range(1, 5)
                                    for answer in ([1], [1, number, number, number + 1, number + 6])])

    def test_a_file_is_in_before_the_others_of_its_slip(self):
        told = run([ask(10, 1, 5, [1, 2]), back(11, 2), who(11, 2), who(11, 1), ask(11, 2, 5, [2]), who(11, 2),
                    back(12, 2), back(12, 1)])
        self.assertEqual(told[1:], [[0], [0], [1, 0, 1, 10, 15], [1], [1, 1, 2, 11, 16], [0], [0]])

    def test_the_same_reader_waits_for_himself(self):
        self.assertEqual(run([ask(1, 1, 5, [1]), ask(1, 1, 5, [1]), count(1)])[2], [2, 1])


class BehindOtherEntries(unittest.TestCase):
    def test_behind_a_withdrawal_though_its_file_was_never_out(self):
        told = run([ask(1, 1, 5, [1]), ask(1, 2, 5, [1, 2]), ask(1, 3, 5, [2, 3]), ask(1, 4, 5, [3]), count(1),
                    drop(2, 2), who(2, 3), count(2)])
        self.assertEqual(told[4:], [[4, 3], [1], [1, 3, 4, 2, 7], [4, 1]])

    def test_behind_a_withdrawal_though_its_file_came_back_before(self):
        told = run([ask(1, 1, 5, [1]), ask(1, 2, 5, [2]), ask(1, 3, 5, [1, 2]), ask(1, 4, 5, [2]), back(2, 2),
                    who(2, 2), drop(3, 2), who(3, 2)])
        self.assertEqual(told[4:], [[0], [0], [1], [1, 3, 4, 3, 8]])

    def test_one_that_is_served_still_keeps_its_files_from_the_others(self):
        told = run([ask(1, 1, 5, [1, 2]), ask(1, 2, 5, [1, 3]), ask(1, 3, 5, [3, 4]), ask(1, 4, 5, [4]),
                    back(2, 1), who(2, 3), count(2), who(2, 4)])
        self.assertEqual(told[4:], [[1], [1, 1, 2, 2, 7], [4, 2], [0]])

    def test_several_are_served_by_one_entry(self):
        told = run([ask(1, 1, 5, [1]), ask(1, 2, 5, [1, 2, 3]), ask(1, 3, 5, [2]), ask(1, 4, 5, [3, 4]),
                    ask(1, 5, 5, [4]), count(1), drop(3, 1), count(3), who(3, 2), who(3, 3), who(3, 4)])
        self.assertEqual(told[5:], [[5, 4], [2], [5, 1], [1, 2, 3, 3, 8], [1, 3, 4, 3, 8], [1, 3, 4, 3, 8]])

    def test_many_are_served_by_one_withdrawal(self):
        told = run([ask(1, 1, 5, [1]), ask(1, 2, 5, range(1, 9))] + [ask(1, 3, 5, [f]) for f in range(2, 9)]
                   + [count(1), drop(4, 1), count(4), drop(4, 1)] + [who(4, f) for f in range(2, 9)])
        self.assertEqual(told[9:13], [[9, 8], [7], [9, 0], [-5]])
        self.assertEqual(told[13:], [[1, f, 3, 4, 9] for f in range(2, 9)])

    def test_behind_an_ask_the_asked_one_alone(self):
        told = run([ask(1, 1, 5, [1]), ask(1, 2, 5, [1]), ask(2, 3, 5, [9]), count(2), who(2, 9), who(2, 1)])
        self.assertEqual(told[3:], [[3, 1], [1, 2, 3, 2, 7], [1, 0, 1, 1, 6]])

    def test_a_withdrawn_slip_is_not_in_the_way(self):
        told = run([ask(1, 1, 5, [1]), ask(1, 2, 5, [1, 2]), drop(1, 1), ask(2, 3, 5, [2]), who(2, 2), back(3, 1),
                    who(3, 1), count(3)])
        self.assertEqual(told[2:], [[0], [2], [1, 2, 3, 2, 7], [0], [0], [3, 0]])

    def test_a_withdrawal_serves_only_who_is_free(self):
        told = run([ask(1, 1, 5, [1]), ask(1, 2, 5, [1, 2]), ask(1, 3, 5, [1]), ask(1, 4, 5, [2]), drop(2, 1),
                    who(2, 2), back(3, 1), who(3, 1)])
        self.assertEqual(told[4:], [[1], [1, 3, 4, 2, 7], [1], [1, 2, 3, 3, 8]])

    def test_nobody_is_served_twice_by_one_entry(self):
        told = run([ask(1, 1, 5, [1]), ask(1, 2, 5, [1]), ask(1, 3, 5, [1]), back(2, 1), who(2, 1), count(2),
                    back(2, 1), who(2, 1), back(2, 1), back(2, 1)])
        self.assertEqual(told[3:], [[1], [1, 1, 2, 2, 7], [3, 1], [1], [1, 2, 3, 2, 7], [0], [-5]])

    def test_one_that_was_done_is_not_served_again(self):
        told = run([ask(1, 1, 5, [1]), back(2, 1), ask(3, 2, 5, [2]), who(3, 1), drop(3, 0)])
        self.assertEqual(told[3:], [[0], [-5]])


class KnownByDays(unittest.TestCase):
    row = [
        ask(10, 1, 5, [1, 2]), ask(12, 2, 7, [2, 3]), ask(14, 3, 1, [3]), back(16, 2), drop(18, 2), back(20, 3),
        back(22, 2),
    ]

    def test_count(self):
        told = run(self.row + [count(k) for k in (0, 9, 10, 11, 12, 13, 14, 15, 16, 17, 18, 21, 22, 23, 292193)])
        self.assertEqual(told[7:], [
            [0, 0], [0, 0], [1, 0], [1, 0], [2, 1], [2, 1], [3, 2], [3, 2], [3, 1], [3, 1], [3, 0], [3, 0], [3, 0],
            [3, 0], [3, 0],
        ])

    def test_who(self):
        told = run(self.row + [who(k, 2) for k in (0, 9, 10, 15, 16, 21, 22, 23, 292193)])
        first = [1, 0, 1, 10, 15]
        then = [1, 1, 2, 16, 23]
        self.assertEqual(told[7:], [[0], [0], first, first, then, then, [0], [0], [0]])

    def test_a_file_stays_out_beyond_the_last_entry_and_its_due_day(self):
        self.assertEqual(last(*self.row, who(292193, 1)), [1, 0, 1, 10, 15])
        self.assertEqual(last(*self.row, who(22, 1)), [1, 0, 1, 10, 15])

    def test_all_entries_of_a_day_are_known_by_it(self):
        told = run([ask(5, 1, 5, [1]), ask(5, 2, 5, [1]), who(5, 1), back(5, 1), who(5, 1), back(5, 1), who(5, 1),
                    count(5), count(4), who(4, 1)])
        self.assertEqual([told[at] for at in (2, 4, 6, 7, 8, 9)],
                         [[1, 0, 1, 5, 10], [1, 1, 2, 5, 10], [0], [2, 0], [0, 0], [0]])

    def test_what_an_earlier_day_knows_stays(self):
        for at in range(1, len(self.row)):
            day = self.row[at][1]
            view = whole_view(range(9, day), range(5), range(4))
            with self.subTest(at=at):
                self.assertEqual(asked(self.row, view), asked(self.row[:at], view))

    def test_each_question_before_on_and_after_the_last_entrys_day(self):
        row = [ask(10, 1, 5, [1, 2]), ask(11, 2, 7, [2, 3]), ask(12, 3, 1, [3]), back(14, 2)]
        for question, before, then in (
            (count, [3, 2], [3, 1]),
            (lambda k: who(k, 2), [1, 0, 1, 10, 15], [1, 1, 2, 14, 21]),
            (lambda k: slip(k, 0), [0, 10, 10, 5, 1, 1], [0, 10, 10, 5, 1, 1, 2]),
            (lambda k: slip(k, 1), [0, 11, -1, 7, 2, 0], [0, 11, 14, 7, 2, 1]),
            (lambda k: files_of(k, 1), [2, 2, 3], [2, 2, 3]),
            (lambda k: waits(k, 1), [1, 0], [-5]),
            (lambda k: waits(k, 2), [1, 1], [1, 1]),
            (lambda k: late(k, 18), [2, 1, 2], [1, 1]),
            (lambda k: late(k, 22), [2, 1, 2], [3, 1, 2, 3]),
            (lambda k: when(k, 1, 16), [0, 16], [-5]),
            (lambda k: when(k, 2, 16), [0, 23], [0, 21]),
        ):
            with self.subTest(call=question(13)):
                self.assertEqual(run(row + [question(k) for k in (12, 13, 14, 15)])[4:], [before, before, then, then])
                self.assertEqual(run(row[:3] + [question(k) for k in (12, 13, 14, 15)])[3:], [before] * 4)

    def test_days_far_behind_the_last_entrys_know_what_it_knows(self):
        view = whole_view([22], range(5), range(4))
        far = whole_view([5000], range(5), range(4))
        for now, then, call in zip(asked(self.row, view), asked(self.row, far), view):
            if call[0] not in (10, 11):
                self.assertEqual(now, then)
