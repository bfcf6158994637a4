"""Each refusal of each call, the order among them, and that they change nothing."""

import unittest

from tests.helper import (
    HIGHEST, LAST_DAY, LAST_FILE, LAST_READER, ask, back, begin, count, drop, entries, files_of, last, late, run, slip,
    slips, waits, when, who, whole_view,
)

# Slip 0 has file 1, slip 1 waits for it, slip 2 is withdrawn, slip 3 is done (file 4).
START = [ask(5, 1, 5, [1]), ask(6, 2, 5, [1, 2]), ask(6, 3, 5, [1]), drop(7, 2), ask(8, 4, 5, [4]), back(9, 4)]


class EachRefusal(unittest.TestCase):
    def check(self, before, call, answer):
        with self.subTest(call=call):
            self.assertEqual(last(*before, call), [answer])

    def test_ask(self):
        for call in (
            ask(LAST_DAY + 1, 1, 1, [1]), ask(9, 0, 1, [1]), ask(9, LAST_READER + 1, 1, [1]), ask(9, 1, 0, [1]),
            ask(9, 1, 1001, [1]), ask(9, 1, 1, []), ask(9, 1, 1, range(9)), ask(9, 1, 1, [LAST_FILE + 1]),
            ask(9, 1, 1, [1, 1]), ask(9, 1, 1, [2, 1]), ask(HIGHEST, HIGHEST, HIGHEST, [HIGHEST] * 20),
        ):
            self.check(START, call, -1)
        self.check(START, ask(8, 1, 1, [1]), -3)
        self.check(slips(64), ask(0, 1, 1, [1]), -6)
        self.check(entries(512), ask(0, 1, 1, [900]), -6)

    def test_back(self):
        for call in (back(LAST_DAY + 1, 1), back(9, LAST_FILE + 1), back(HIGHEST, HIGHEST)):
            self.check(START, call, -1)
        self.check(START, back(8, 1), -3)
        self.check(START, back(9, 3), -5)
        self.check(START, back(9, 2), -5)
        self.check(START, back(9, 4), -5)
        self.check([], back(0, 0), -5)
        self.check(entries(512), back(0, 8), -6)

    def test_drop(self):
        self.check(START, drop(LAST_DAY + 1, 1), -1)
        self.check(START, drop(8, 1), -3)
        self.check(START, drop(9, 4), -4)
        self.check(START, drop(9, HIGHEST), -4)
        self.check([], drop(0, 0), -4)
        self.check(START, drop(9, 0), -5)
        self.check(START, drop(9, 2), -5)
        self.check(START, drop(9, 3), -5)
        self.check(entries(512), drop(0, 1), -6)

    def test_count(self):
        self.check(START, count(LAST_DAY + 1), -1)
        self.check(START, count(HIGHEST), -1)

    def test_who(self):
        self.check(START, who(LAST_DAY + 1, 1), -1)
        self.check(START, who(9, LAST_FILE + 1), -1)
        self.check(START, who(HIGHEST, HIGHEST), -1)

    def test_slip_and_files(self):
        for question in (slip, files_of):
            self.check(START, question(LAST_DAY + 1, 1), -1)
            self.check(START, question(HIGHEST, 1), -1)
            self.check(START, question(9, 4), -4)
            self.check(START, question(9, HIGHEST), -4)
            self.check(START, question(4, 0), -4)
            self.check(START, question(5, 1), -4)
            self.check(START, question(7, 3), -4)
            self.check([], question(0, 0), -4)

    def test_waits(self):
        self.check(START, waits(LAST_DAY + 1, 1), -1)
        self.check(START, waits(9, 4), -4)
        self.check(START, waits(9, HIGHEST), -4)
        self.check(START, waits(5, 1), -4)
        self.check(START, waits(9, 0), -5)
        self.check(START, waits(9, 2), -5)
        self.check(START, waits(9, 3), -5)

    def test_late(self):
        self.check(START, late(LAST_DAY + 1, 9), -1)
        self.check(START, late(9, LAST_DAY + 1), -1)
        self.check(START, late(HIGHEST, HIGHEST), -1)

    def test_when(self):
        self.check(START, when(LAST_DAY + 1, 1, LAST_DAY + 1), -1)
        self.check(START, when(9, 1, LAST_DAY + 1), -1)
        self.check(START, when(9, 1, 8), -3)
        self.check(START, when(9, 4, 9), -4)
        self.check(START, when(9, HIGHEST, 9), -4)
        self.check(START, when(5, 1, 9), -4)
        self.check(START, when(9, 0, 9), -5)
        self.check(START, when(9, 2, 9), -5)
        self.check(START, when(9, 3, 9), -5)

    def test_late_takes_x_before_k_and_when_a_day_before_the_last_entrys(self):
        self.assertEqual(last(*START, late(9, 0)), [0])
        self.assertEqual(last(*START, when(6, 1, 6)), [0, 10])

    def test_a_file_is_brought_back_once(self):
        told = run([ask(0, 1, 5, [1, 2]), back(0, 1), back(0, 1), back(0, 2), back(0, 2)])
        self.assertEqual(told[1:], [[0], [-5], [0], [-5]])

    def test_a_slip_is_withdrawn_once(self):
        told = run([ask(0, 1, 5, [1]), ask(0, 1, 5, [1]), drop(0, 1), drop(0, 1)])
        self.assertEqual(told[2:], [[0], [-5]])


class TheFirstInOrder(unittest.TestCase):
    """Where two refusals would be right, the one that the document names first."""

    def check(self, before, call, answer):
        with self.subTest(call=call):
            self.assertEqual(last(*before, call), [answer])

    def test_ask(self):
        wrong = ((0, 1, [1]), (LAST_READER + 1, 1, [1]), (1, 0, [1]), (1, 1001, [1]), (1, 1, []), (1, 1, range(9)),
                 (1, 1, [LAST_FILE + 1]), (1, 1, [1, 1]), (1, 1, [2, 1]))
        for reader, days, files in wrong:
            self.check(START, ask(8, reader, days, files), -1)
            self.check(slips(64), ask(0, reader, days, files), -1)
            self.check(entries(512), ask(0, reader, days, files), -1)
        self.check(slips(64, 5), ask(LAST_DAY + 1, 1, 1, [1]), -1)
        self.check(slips(64, 5), ask(4, 1, 1, [1]), -3)
        self.check(entries(512, 5), ask(LAST_DAY + 1, 1, 1, [1]), -1)
        self.check(entries(512, 5), ask(4, 1, 1, [1]), -3)

    def test_back(self):
        self.check(START, back(8, LAST_FILE + 1), -1)
        self.check(START, back(LAST_DAY + 1, 3), -1)
        self.check(START, back(8, 3), -3)
        full = entries(512, 5)
        self.check(full, back(LAST_DAY + 1, 8), -1)
        self.check(full, back(5, LAST_FILE + 1), -1)
        self.check(full, back(4, 8), -3)
        self.check(full, back(4, 999), -3)
        self.check(full, back(5, 999), -5)

    def test_drop(self):
        self.check(START, drop(LAST_DAY + 1, 4), -1)
        self.check(START, drop(LAST_DAY + 1, 0), -1)
        self.check(START, drop(8, 4), -3)
        self.check(START, drop(8, 0), -3)
        full = entries(512, 5)
        self.check(full, drop(LAST_DAY + 1, 1), -1)
        self.check(full, drop(4, 1), -3)
        self.check(full, drop(4, 64), -3)
        self.check(full, drop(5, 64), -4)
        self.check(full, drop(5, 0), -5)

    def test_slip_files_and_waits(self):
        for question in (slip, files_of, waits):
            self.check(START, question(LAST_DAY + 1, 4), -1)
            self.check(START, question(LAST_DAY + 1, HIGHEST), -1)
        self.check(START, waits(LAST_DAY + 1, 0), -1)
        # By day 4 slip 0 is not known, and by day 7 slip 3, which is out by 8 and done by 9.
        self.check(START, waits(4, 0), -4)
        self.check(START, waits(7, 3), -4)

    def test_when(self):
        self.check(START, when(LAST_DAY + 1, 1, 0), -1)
        self.check(START, when(LAST_DAY + 1, 4, 0), -1)
        self.check(START, when(LAST_DAY + 1, 0, LAST_DAY + 1), -1)
        self.check(START, when(9, 4, LAST_DAY + 1), -1)
        self.check(START, when(9, 0, LAST_DAY + 1), -1)
        self.check(START, when(9, 4, 8), -3)
        self.check(START, when(9, HIGHEST, 8), -3)
        self.check(START, when(9, 0, 8), -3)
        self.check(START, when(9, 2, 8), -3)
        self.check(START, when(9, 3, 0), -3)
        self.check(START, when(7, 3, 6), -3)
        self.check(START, when(7, 3, 7), -4)
        self.check([], when(1, 0, 0), -3)


class NothingChanges(unittest.TestCase):
    row = START + [
        ask(10, 5, 9, [2, 5]), back(11, 1), ask(12, 6, 3, [1]), drop(12, 4), back(13, 2), back(13, 1), count(13),
    ]
    view = whole_view((5, 7, 9, 10, 12, 14), range(7), range(7))

    def refused(self, at):
        """Calls that are refused behind so many calls of the row."""
        calls = [
            ask(LAST_DAY + 1, 1, 1, [1]), ask(20, 0, 1, [1]), ask(20, LAST_READER + 1, 1, [1]), ask(20, 1, 0, [1]),
            ask(20, 1, 1001, [1]), ask(20, 1, 1, []), ask(20, 1, 1, range(9)), ask(20, 1, 1, [3, LAST_FILE + 1]),
            ask(20, 1, 1, [3, 3]), ask(20, 1, 1, [6, 3]), back(LAST_DAY + 1, 1), back(20, LAST_FILE + 1), back(20, 6),
            drop(LAST_DAY + 1, 1), drop(20, 60), count(LAST_DAY + 1), who(LAST_DAY + 1, 1), who(20, LAST_FILE + 1),
            slip(LAST_DAY + 1, 0), slip(20, 60), files_of(LAST_DAY + 1, 0), files_of(20, 60), waits(LAST_DAY + 1, 1),
            waits(20, 60), waits(20, 0), late(LAST_DAY + 1, 20), late(20, LAST_DAY + 1), when(LAST_DAY + 1, 1, 20),
            when(20, 1, LAST_DAY + 1), when(20, 1, 19), when(20, 60, 20), when(20, 0, 20),
        ]
        if at > 0:
            calls.extend([ask(4, 1, 1, [3]), back(4, 1), drop(4, 1), drop(20, 0)])
        return calls

    def test_every_answer_is_as_without_the_refused_call(self):
        without = run(self.row + self.view)
        for at in range(len(self.row) + 1):
            for call in self.refused(at):
                with self.subTest(at=at, call=call):
                    told = run(self.row[:at] + [call] + self.row[at:] + self.view)
                    self.assertLess(told[at][0], 0)
                    self.assertEqual(told[:at] + told[at + 1:], without)

    def test_every_answer_is_as_without_the_question(self):
        without = run(self.row + self.view)
        for at in range(len(self.row) + 1):
            for k in (4, 6, 9, 12, 20):
                questions = [count(k), late(k, k), late(k, k + 20)] + [who(k, f) for f in (1, 2)]
                for q in range(3):
                    questions.extend([slip(k, q), files_of(k, q), waits(k, q), when(k, q, k), when(k, q, k + 20)])
                for call in questions:
                    with self.subTest(at=at, call=call):
                        told = run(self.row[:at] + [call] + self.row[at:] + self.view)
                        self.assertEqual(told[:at] + told[at + 1:], without)

    def test_full_of_slips(self):
        rest = [back(1, 7), drop(1, 5), back(2, 7), count(0), count(2), who(0, 7), who(1, 7), who(2, 7), who(2, 3)]
        without = run(slips(64) + rest)
        told = run(slips(64) + [ask(9, 1, 1, [3])] + rest)
        self.assertEqual(told[64], [-6])
        self.assertEqual(told[:64] + told[65:], without)

    def test_full_of_entries(self):
        rest = whole_view([0, 8, 9, 10], [1, 8, 100, 900], [0, 1, 2, 40])
        without = run(entries(512) + rest)
        for call in (ask(9, 1, 1, [900]), back(9, 8), drop(9, 1)):
            with self.subTest(call=call):
                told = run(entries(512) + [call] + rest)
                self.assertEqual(told[512], [-6])
                self.assertEqual(told[:512] + told[513:], without)

    def test_a_refused_slip_takes_no_number(self):
        told = run([begin(), ask(3, 1, 1, [1, 1]), ask(3, 1, 1, [1]), ask(2, 1, 1, [2]), ask(3, 1, 1, [2])])
        self.assertEqual(told[1:], [[-1], [0], [-3], [1]])
