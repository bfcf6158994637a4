"""The edges that the document names, each on both sides."""

import unittest

from tests.helper import (
    HIGHEST, LAST_DAY, LAST_FILE, LAST_READER, ask, back, begin, count, drop, entries, files_of, last, late, run, slip,
    slips, waits, when, who,
)

WAITING = [ask(0, 1, 5, [1]), ask(0, 2, 5, [1])]


class Days(unittest.TestCase):
    def test_ask(self):
        self.assertEqual(run([ask(0, 1, 1, [1]), who(0, 1)]), [[0], [1, 0, 1, 0, 1]])
        self.assertEqual(last(ask(LAST_DAY, 1, 1, [1])), [0])
        self.assertEqual(last(ask(LAST_DAY + 1, 1, 1, [1])), [-1])
        self.assertEqual(last(ask(HIGHEST, 1, 1, [1])), [-1])

    def test_back(self):
        self.assertEqual(last(*WAITING, back(0, 1)), [1])
        self.assertEqual(last(*WAITING, back(LAST_DAY, 1)), [1])
        self.assertEqual(last(*WAITING, back(LAST_DAY + 1, 1)), [-1])
        self.assertEqual(last(*WAITING, back(HIGHEST, 1)), [-1])

    def test_drop(self):
        self.assertEqual(last(*WAITING, drop(0, 1)), [0])
        self.assertEqual(last(*WAITING, drop(LAST_DAY, 1)), [0])
        self.assertEqual(last(*WAITING, drop(LAST_DAY + 1, 1)), [-1])
        self.assertEqual(last(*WAITING, drop(HIGHEST, 1)), [-1])

    def test_count(self):
        self.assertEqual(last(*WAITING, count(0)), [2, 1])
        self.assertEqual(last(*WAITING, count(LAST_DAY)), [2, 1])
        self.assertEqual(last(*WAITING, count(LAST_DAY + 1)), [-1])
        self.assertEqual(last(*WAITING, count(HIGHEST)), [-1])

    def test_who(self):
        self.assertEqual(last(*WAITING, who(0, 1)), [1, 0, 1, 0, 5])
        self.assertEqual(last(*WAITING, who(LAST_DAY, 1)), [1, 0, 1, 0, 5])
        self.assertEqual(last(*WAITING, who(LAST_DAY + 1, 1)), [-1])
        self.assertEqual(last(*WAITING, who(HIGHEST, 1)), [-1])

    def test_slip(self):
        self.assertEqual(last(*WAITING, slip(0, 1)), [0, 0, -1, 5, 2, 0])
        self.assertEqual(last(*WAITING, slip(LAST_DAY, 1)), [0, 0, -1, 5, 2, 0])
        self.assertEqual(last(*WAITING, slip(LAST_DAY + 1, 1)), [-1])
        self.assertEqual(last(*WAITING, slip(HIGHEST, 1)), [-1])

    def test_files(self):
        self.assertEqual(last(*WAITING, files_of(0, 1)), [1, 1])
        self.assertEqual(last(*WAITING, files_of(LAST_DAY, 1)), [1, 1])
        self.assertEqual(last(*WAITING, files_of(LAST_DAY + 1, 1)), [-1])
        self.assertEqual(last(*WAITING, files_of(HIGHEST, 1)), [-1])

    def test_waits(self):
        self.assertEqual(last(*WAITING, waits(0, 1)), [1, 0])
        self.assertEqual(last(*WAITING, waits(LAST_DAY, 1)), [1, 0])
        self.assertEqual(last(*WAITING, waits(LAST_DAY + 1, 1)), [-1])
        self.assertEqual(last(*WAITING, waits(HIGHEST, 1)), [-1])

    def test_late(self):
        self.assertEqual(last(*WAITING, late(0, 0)), [0])
        self.assertEqual(last(*WAITING, late(0, LAST_DAY)), [1, 1])
        self.assertEqual(last(*WAITING, late(LAST_DAY, 0)), [0])
        self.assertEqual(last(*WAITING, late(LAST_DAY, LAST_DAY)), [1, 1])
        for k, x in ((LAST_DAY + 1, 0), (0, LAST_DAY + 1), (LAST_DAY + 1, LAST_DAY + 1), (HIGHEST, 0), (0, HIGHEST)):
            with self.subTest(k=k, x=x):
                self.assertEqual(last(*WAITING, late(k, x)), [-1])

    def test_when(self):
        self.assertEqual(last(*WAITING, when(0, 1, 0)), [0, 5])
        self.assertEqual(last(*WAITING, when(0, 1, LAST_DAY)), [0, LAST_DAY])
        self.assertEqual(last(*WAITING, when(LAST_DAY, 1, LAST_DAY)), [0, LAST_DAY])
        self.assertEqual(last(*WAITING, when(LAST_DAY, 1, LAST_DAY - 1)), [-3])
        for k, x in ((LAST_DAY + 1, LAST_DAY + 1), (0, LAST_DAY + 1), (LAST_DAY + 1, 0), (HIGHEST, 0), (0, HIGHEST)):
            with self.subTest(k=k, x=x):
                self.assertEqual(last(*WAITING, when(k, 1, x)), [-1])

    def test_due_may_lie_beyond_the_last_day(self):
        told = run([ask(LAST_DAY, 1, 1000, [1]), who(LAST_DAY, 1), who(LAST_DAY - 1, 1)])
        self.assertEqual(told, [[0], [1, 0, 1, LAST_DAY, LAST_DAY + 1000], [0]])


class WhatASlipMayAsk(unittest.TestCase):
    def check(self, reader, days, files, answer):
        """Taken, it is seen as it was asked; refused, there is no slip."""
        told = run([ask(4, reader, days, files), count(4)])
        self.assertEqual(told[0], [answer])
        if answer == 0:
            self.assertEqual(told[1], [1, 0])
            for f in files:
                self.assertEqual(last(ask(4, reader, days, files), who(4, f)), [1, 0, reader, 4, 4 + days])
        else:
            self.assertEqual(told[1], [0, 0])

    def test_readers(self):
        for reader, answer in ((0, -1), (1, 0), (LAST_READER, 0), (LAST_READER + 1, -1), (HIGHEST, -1)):
            with self.subTest(reader=reader):
                self.check(reader, 3, [1], answer)

    def test_days(self):
        for days, answer in ((0, -1), (1, 0), (1000, 0), (1001, -1), (HIGHEST, -1)):
            with self.subTest(days=days):
                self.check(1, days, [1], answer)

    def test_how_many_files(self):
        for many, answer in ((0, -1), (1, 0), (2, 0), (8, 0), (9, -1), (20, -1)):
            with self.subTest(many=many):
                self.check(1, 3, list(range(30, 30 + many)), answer)

    def test_behind_a_row_of_any_length_the_next_call_is_read(self):
        for many in range(21):
            with self.subTest(many=many):
                told = run([ask(0, 1, 1, range(many)), ask(0, 2, 1, [50]), who(0, 50)])
                number = 1 if 1 <= many <= 8 else 0
                self.assertEqual(told[1:], [[number], [1, number, 2, 0, 1]])

    def test_which_files(self):
        for files, answer in (
            ([0], 0), ([LAST_FILE], 0), ([LAST_FILE + 1], -1), ([HIGHEST], -1),
            ([0, LAST_FILE], 0), ([0, LAST_FILE + 1], -1), ([LAST_FILE, LAST_FILE + 1], -1),
            ([LAST_FILE - 7 + f for f in range(8)], 0), ([LAST_FILE - 6 + f for f in range(8)], -1),
            ([HIGHEST] * 20, -1), ([HIGHEST - 19 + f for f in range(20)], -1),
        ):
            with self.subTest(files=files):
                self.check(1, 3, files, answer)

    def test_files_rise(self):
        for files, answer in (
            ([1, 2], 0), ([1, 1], -1), ([2, 1], -1), ([0, 0], -1), ([1, 0], -1), ([1, 3, 2], -1), ([2, 1, 3], -1),
            ([1, 2, 2], -1), ([1, 1, 2], -1), ([1, 2, 1], -1), ([1, 5, 9, 100], 0), ([8, 7, 6, 5, 4, 3, 2, 1], -1),
            ([1, 2, 3, 4, 5, 6, 8, 7], -1), ([1, 2, 3, 4, 5, 6, 7, 7], -1), ([LAST_FILE + 1, 1], -1),
        ):
            with self.subTest(files=files):
                self.check(1, 3, files, answer)


class FilesOfOtherCalls(unittest.TestCase):
    def test_back(self):
        both = ask(0, 1, 5, [0, LAST_FILE])
        self.assertEqual(run([both, back(0, 0), back(0, LAST_FILE)]), [[0], [0], [0]])
        self.assertEqual(last(both, back(0, LAST_FILE + 1)), [-1])
        self.assertEqual(last(both, back(0, HIGHEST)), [-1])

    def test_who(self):
        both = ask(0, 1, 5, [0, LAST_FILE])
        self.assertEqual(run([both, who(0, 0), who(0, LAST_FILE)])[1:], [[1, 0, 1, 0, 5], [1, 0, 1, 0, 5]])
        self.assertEqual(run([who(0, 0), who(0, LAST_FILE)]), [[0], [0]])
        self.assertEqual(last(both, who(0, LAST_FILE + 1)), [-1])
        self.assertEqual(last(both, who(0, HIGHEST)), [-1])


class DaysDoNotFall(unittest.TestCase):
    start = [ask(10, 1, 5, [1]), ask(20, 2, 5, [1]), ask(20, 3, 5, [1])]

    def test_ask(self):
        self.assertEqual(last(*self.start, ask(20, 1, 1, [2])), [3])
        self.assertEqual(last(*self.start, ask(19, 1, 1, [2])), [-3])
        self.assertEqual(last(*self.start, ask(0, 1, 1, [2])), [-3])

    def test_back(self):
        self.assertEqual(last(*self.start, back(20, 1)), [1])
        self.assertEqual(last(*self.start, back(19, 1)), [-3])

    def test_drop(self):
        self.assertEqual(last(*self.start, drop(20, 2)), [0])
        self.assertEqual(last(*self.start, drop(19, 2)), [-3])

    def test_each_kind_of_entry_moves_the_day_on(self):
        for entry in (ask(30, 1, 1, [2]), back(30, 1), drop(30, 2)):
            with self.subTest(entry=entry):
                self.assertEqual(last(*self.start, entry, ask(29, 1, 1, [3])), [-3])
                self.assertGreaterEqual(last(*self.start, entry, ask(30, 1, 1, [3]))[0], 3)

    def test_the_last_entry_is_meant_and_not_the_last_call(self):
        for call in (count(50), who(50, 1), drop(50, 9), back(50, 9), ask(50, 0, 1, [1]), drop(50, 0), slip(50, 1),
                     files_of(50, 1), waits(50, 1), late(50, 60), when(50, 1, 60)):
            with self.subTest(call=call):
                self.assertEqual(last(*self.start, call, drop(20, 2)), [0])

    def test_begin_begins_the_days_again(self):
        self.assertEqual(last(*self.start, begin(), ask(0, 1, 1, [1])), [0])

    def test_questions_may_be_of_any_day(self):
        told = run(self.start + [count(19), count(9), who(9, 1), who(10, 1), count(21)])
        self.assertEqual(told[3:], [[1, 0], [0, 0], [0], [1, 0, 1, 10, 15], [3, 2]])


class Slips(unittest.TestCase):
    def test_the_64th_and_the_65th(self):
        told = run(slips(66) + [count(0)])
        self.assertEqual(told, [[number] for number in range(64)] + [[-6], [-6], [64, 63]])

    def test_those_withdrawn_or_done_count(self):
        self.assertEqual(last(*slips(64), drop(0, 5), ask(0, 1, 1, [9])), [-6])
        self.assertEqual(last(*slips(64), back(0, 7), ask(0, 1, 1, [9])), [-6])
        self.assertEqual(last(*slips(63), drop(0, 5), ask(0, 1, 1, [9])), [63])

    def test_full_of_slips_the_other_entries_are_taken(self):
        told = run(slips(64) + [drop(0, 1), back(0, 7), who(0, 7), drop(0, 63)])
        self.assertEqual(told[64:], [[0], [1], [1, 2, 1, 0, 5], [0]])

    def test_which_slips_there_are(self):
        self.assertEqual(last(drop(0, 0)), [-4])
        self.assertEqual(last(*slips(64), drop(0, 63)), [0])
        self.assertEqual(last(*slips(64), drop(0, 64)), [-4])
        self.assertEqual(last(*slips(64), drop(0, HIGHEST)), [-4])
        self.assertEqual(last(*slips(2), drop(0, 1)), [0])
        self.assertEqual(last(*slips(2), drop(0, 2)), [-4])

    def test_which_slips_the_questions_know(self):
        for many in (1, 2, 64):
            for question in (slip, files_of, waits, lambda k, q: when(k, q, k)):
                told = run(slips(many) + [question(0, q) for q in (0, many - 1, many, HIGHEST)])
                self.assertNotEqual(told[many], [-4])
                self.assertNotEqual(told[many + 1], [-4])
                self.assertEqual(told[many + 2:], [[-4], [-4]])

    def test_the_first_and_the_last_of_64(self):
        told = run(slips(64, 3) + [slip(3, 0), slip(3, 63), files_of(3, 63), waits(3, 0), waits(3, 63), when(3, 0, 3),
                                   when(3, 63, 3)])
        self.assertEqual(told[64:], [[0, 3, 3, 5, 1, 1], [0, 3, -1, 5, 1, 0], [1, 7], [-5], [63] + list(range(63)),
                                     [-5], [0, 3 + 5 * 63]])

    def test_without_slips_there_is_none(self):
        for k in (0, 7, LAST_DAY):
            told = run([question(k, q) for question in (slip, files_of, waits) for q in (0, 1, 63, HIGHEST)])
            self.assertEqual(told, [[-4]] * 12)
            self.assertEqual(last(when(k, 0, k)), [-4])


class Entries(unittest.TestCase):
    kinds = (ask(0, 1, 1, [900]), back(0, 8), drop(0, 1))

    def test_all_of_them_are_taken(self):
        told = run(entries(512))
        self.assertEqual([answer for answer in told if answer[0] < 0], [])
        self.assertLess(last(*entries(512), count(0))[0], 64)

    def test_the_512th(self):
        for call in self.kinds:
            with self.subTest(call=call):
                self.assertGreaterEqual(last(*entries(511), call)[0], 0)

    def test_the_513th(self):
        for call in self.kinds:
            with self.subTest(call=call):
                self.assertEqual(last(*entries(512), call), [-6])

    def test_each_kind_is_counted(self):
        for first in self.kinds:
            for call in (ask(0, 1, 1, [901]), back(0, 1), drop(0, 2)):
                with self.subTest(first=first, call=call):
                    self.assertGreaterEqual(last(*entries(510), first, call)[0], 0)
                    self.assertEqual(last(*entries(511), first, call), [-6])

    def test_refused_calls_and_questions_are_not_counted(self):
        idle = [ask(0, 0, 1, [1]), back(0, 999), drop(0, 99), drop(0, 0), count(0), who(0, 8), slip(0, 1),
                files_of(0, 1), waits(0, 1), late(0, 5), when(0, 1, 0)]
        start = entries(511)
        self.assertEqual(last(*start[:3], *idle * 16, *start[3:], back(0, 8)), [1])
        self.assertEqual(last(*start[:3], *idle * 16, *start[3:], back(0, 8), back(0, 7)), [-6])

    def test_full_of_entries_the_questions_are_answered(self):
        told = run(entries(512) + [slip(0, 0), files_of(0, 1), waits(0, 2), late(0, 5), when(0, 2, 0)])
        self.assertEqual(told[512:], [[0, 0, 0, 5, 1, 1], [1, 8], [2, 0, 1], [0], [0, 10]])

    def test_begin_is_not_counted(self):
        self.assertEqual(last(begin(), begin(), *entries(511), back(0, 8)), [1])
        self.assertEqual(last(*entries(512), begin(), ask(0, 1, 1, [1])), [0])
