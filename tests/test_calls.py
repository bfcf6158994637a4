"""The calls at ordinary inputs, the document's run, and the form of what goes in and out."""

import contextlib
import io
import unittest

from slipshelf.binder import answers
from tests.helper import (
    MOST_CALLS, ask, back, begin, count, drop, entries, files_of, joined, last, late, run, slip, slips, waits, when,
    who,
)


class Ordinary(unittest.TestCase):
    def test_begin_answers_nought(self):
        self.assertEqual(run([begin()]), [[0]])

    def test_begin_makes_the_object_new(self):
        told = run([
            ask(50, 1, 5, [1]), ask(60, 2, 5, [1]), begin(),
            count(60), who(60, 1), drop(60, 0), back(60, 1), ask(3, 9, 4, [1]), who(3, 1),
        ])
        self.assertEqual(told[2:], [[0], [0, 0], [0], [-4], [-5], [0], [1, 0, 9, 3, 7]])

    def test_a_list_may_do_without_begin(self):
        self.assertEqual(run([count(0), ask(0, 1, 1, [0])]), [[0, 0], [0]])

    def test_begin_makes_room_again(self):
        full = [ask(0, 1, 1, [5]) for number in range(64)]
        self.assertEqual(last(*full, begin(), ask(0, 1, 1, [5])), [0])

    def test_ask_answers_the_number_served_or_not(self):
        told = run([ask(10, 1, 5, [1, 2]), ask(10, 2, 5, [2, 3]), ask(11, 3, 5, [4]), drop(11, 1), ask(11, 3, 5, [9])])
        self.assertEqual(told, [[0], [1], [2], [0], [3]])

    def test_back_answers_how_many_are_served(self):
        told = run([ask(1, 1, 5, [1, 2]), ask(1, 2, 5, [1]), back(2, 2), back(2, 1), back(3, 1)])
        self.assertEqual(told[2:], [[0], [1], [0]])

    def test_drop_answers_how_many_are_served(self):
        told = run([ask(1, 1, 5, [1]), ask(1, 2, 5, [1, 2]), ask(1, 3, 5, [2]), drop(2, 1), who(2, 2), count(2)])
        self.assertEqual(told[3:], [[1], [1, 2, 3, 2, 7], [3, 0]])

    def test_count_tells_all_slips_and_those_that_wait(self):
        told = run([
            count(5), ask(5, 1, 5, [1]), ask(5, 1, 5, [1]), ask(5, 1, 5, [1]), count(5),
            drop(6, 2), count(6), back(7, 1), count(7), back(8, 1), count(8),
        ])
        self.assertEqual([told[at] for at in (0, 4, 6, 8, 10)], [[0, 0], [3, 2], [3, 1], [3, 0], [3, 0]])

    def test_who_tells_slip_reader_since_and_due(self):
        told = run([ask(3, 1, 9, [4]), ask(20, 77, 6, [5, 8]), who(20, 5), who(20, 8), who(20, 6), back(22, 5),
                    who(22, 5), who(22, 8)])
        self.assertEqual(told[2:], [[1, 1, 77, 20, 26], [1, 1, 77, 20, 26], [0], [0], [0], [1, 1, 77, 20, 26]])

    def test_due_counts_from_the_serving(self):
        told = run([ask(10, 1, 5, [1]), ask(11, 2, 7, [1]), back(30, 1), who(30, 1)])
        self.assertEqual(told[3], [1, 1, 2, 30, 37])

    def test_slip_tells_days_reader_state_and_what_is_back(self):
        told = run([ask(3, 44, 9, [4, 6]), ask(5, 55, 8, [6]), back(7, 6), slip(7, 0), slip(7, 1), slip(6, 1)])
        self.assertEqual(told[3:], [[0, 3, 3, 9, 44, 1, 6], [0, 5, 7, 8, 55, 1], [0, 5, -1, 8, 55, 0]])

    def test_files_tells_how_many_and_which(self):
        self.assertEqual(last(ask(3, 44, 9, [4, 6, 70]), files_of(3, 0)), [3, 4, 6, 70])

    def test_waits_tells_how_many_and_whom(self):
        told = run([ask(3, 1, 9, [4]), ask(3, 2, 9, [4, 5]), ask(3, 3, 9, [4, 5]), waits(3, 1), waits(3, 2)])
        self.assertEqual(told[3:], [[1, 0], [2, 0, 1]])

    def test_late_tells_how_many_and_which(self):
        told = run([ask(3, 1, 9, [4, 6]), ask(3, 2, 2, [5]), late(3, 5), late(3, 6), late(3, 13)])
        self.assertEqual(told[2:], [[0], [1, 5], [3, 5, 4, 6]])

    def test_when_tells_nought_and_the_day(self):
        told = run([ask(3, 1, 9, [4]), ask(3, 2, 2, [4]), ask(3, 3, 2, [4]), when(3, 1, 3), when(3, 2, 3)])
        self.assertEqual(told[3:], [[0, 12], [0, 14]])

    def test_begin_makes_the_later_calls_new_too(self):
        told = run([ask(3, 1, 9, [4]), ask(3, 2, 2, [4]), begin(), slip(3, 0), files_of(3, 0), waits(3, 1),
                    late(3, 99), when(3, 1, 3), ask(1, 7, 1, [4]), slip(1, 0)])
        self.assertEqual(told[3:], [[-4], [-4], [-4], [0], [-4], [0], [0, 1, 1, 1, 7, 1]])


class TheRun(unittest.TestCase):
    """The run of the document, number by number."""

    def setUp(self):
        self.calls = []

    def tell(self, call, answer):
        self.calls.append(call)
        self.assertEqual(run(self.calls)[-1], answer)

    def test_run(self):
        self.tell(begin(), [0])
        self.tell(ask(10, 1, 5, [1, 2]), [0])
        self.tell(who(10, 1), [1, 0, 1, 10, 15])
        self.tell(who(10, 2), [1, 0, 1, 10, 15])
        self.tell(slip(10, 0), [0, 10, 10, 5, 1, 1])
        self.tell(waits(10, 0), [-5])
        self.tell(ask(10, 2, 7, [2, 3]), [1])
        self.tell(count(10), [2, 1])
        self.tell(waits(10, 1), [1, 0])
        self.tell(slip(10, 1), [0, 10, -1, 7, 2, 0])
        self.tell(who(10, 3), [0])
        self.tell(ask(10, 3, 1, [3]), [2])
        self.tell(count(10), [3, 2])
        self.tell(waits(10, 2), [1, 1])
        self.tell(who(10, 3), [0])
        self.tell(ask(10, 4, 2, [9]), [3])
        self.tell(count(10), [4, 2])
        self.tell(who(10, 9), [1, 3, 4, 10, 12])
        self.tell(slip(10, 3), [0, 10, 10, 2, 4, 1])
        self.tell(files_of(10, 0), [2, 1, 2])
        self.tell(files_of(10, 1), [2, 2, 3])
        self.tell(files_of(10, 2), [1, 3])
        self.tell(late(10, 13), [1, 9])
        self.tell(late(10, 12), [0])
        self.tell(when(10, 1, 10), [0, 15])
        self.tell(when(10, 2, 10), [0, 22])
        self.tell(when(10, 1, 20), [0, 20])
        self.tell(when(10, 2, 20), [0, 27])
        self.tell(back(12, 2), [1])
        self.tell(slip(12, 1), [0, 10, 12, 7, 2, 1])
        self.tell(slip(12, 0), [0, 10, 10, 5, 1, 1, 2])
        self.tell(who(12, 1), [1, 0, 1, 10, 15])
        self.tell(who(12, 2), [1, 1, 2, 12, 19])
        self.tell(who(12, 3), [1, 1, 2, 12, 19])
        self.tell(count(12), [4, 1])
        self.tell(back(12, 1), [0])
        self.tell(who(12, 1), [0])
        self.tell(slip(12, 0), [0, 10, 10, 5, 1, 2, 1, 2])
        self.tell(waits(12, 2), [1, 1])
        self.tell(when(12, 2, 12), [0, 19])
        self.tell(drop(13, 2), [0])
        self.tell(slip(13, 2), [0, 10, -1, 1, 3, 3])
        self.tell(waits(13, 2), [-5])
        self.tell(when(13, 2, 13), [-5])
        self.tell(count(13), [4, 0])
        self.tell(back(20, 3), [0])
        self.tell(who(13, 3), [1, 1, 2, 12, 19])
        self.tell(who(20, 3), [0])
        self.tell(who(20, 2), [1, 1, 2, 12, 19])
        self.tell(slip(20, 1), [0, 10, 12, 7, 2, 1, 3])
        self.tell(late(20, 20), [2, 9, 2])
        self.tell(late(13, 20), [3, 9, 2, 3])
        self.tell(when(10, 2, 10), [0, 22])
        self.tell(waits(10, 2), [1, 1])
        self.tell(count(10), [4, 2])
        self.tell(count(12), [4, 1])
        self.tell(count(20), [4, 0])


class Fixed(list):
    """A list that can be read alone."""

    def refuse(self, *given, **named):
        raise AssertionError("what is handed in is changed")

    __setitem__ = __delitem__ = __iadd__ = __imul__ = refuse
    append = clear = extend = insert = pop = remove = reverse = sort = refuse


class Form(unittest.TestCase):
    row = [
        begin(), ask(10, 1, 5, [1, 2]), ask(10, 2, 7, [2, 3]), who(10, 2), back(12, 2), ask(12, 0, 1, [1]),
        ask(11, 1, 1, [1]), drop(12, 9), drop(12, 0), count(12), who(12, 3), back(12, 1), ask(12, 6, 6, []),
        ask(12, 3, 8, [2]), ask(12, 4, 8, [2, 3]), slip(12, 0), slip(12, 3), files_of(12, 1), waits(12, 3),
        late(12, 40), when(12, 3, 13), drop(13, 2), slip(13, 2), when(13, 3, 12), waits(13, 9), late(13, 292194),
    ]

    def test_an_empty_list_answers_an_empty_list(self):
        self.assertEqual(answers([]), [])

    def test_each_answer_stands_behind_its_length(self):
        calls = joined([begin(), ask(10, 1, 5, [1, 2]), count(10), who(10, 2), who(10, 3), ask(9, 1, 5, [1])])
        self.assertEqual(answers(calls), [1, 0, 1, 0, 2, 1, 0, 5, 1, 0, 1, 10, 15, 1, 0, 1, -3])

    def test_all_eleven_kinds_in_one_list(self):
        calls = joined([begin(), ask(10, 1, 5, [1, 2]), ask(10, 2, 7, [2, 3]), ask(10, 3, 1, [3]), back(11, 1),
                        drop(11, 2), count(11), who(11, 2), slip(11, 0), files_of(11, 1), waits(11, 1), late(11, 16),
                        when(11, 1, 11), late(11, 15)])
        self.assertEqual(answers(calls), [
            1, 0, 1, 0, 1, 1, 1, 2, 1, 0, 1, 0, 2, 3, 1, 5, 1, 0, 1, 10, 15, 7, 0, 10, 10, 5, 1, 1, 1, 3, 2, 2, 3,
            2, 1, 0, 2, 1, 2, 2, 0, 15, 1, 0,
        ])
        self.assertEqual({call[0] for call in self.row}, set(range(1, 12)))

    def test_a_refusal_is_its_number_alone(self):
        self.assertEqual(answers(count(292194)), [1, -1])
        self.assertEqual(answers(who(0, 16384)), [1, -1])
        self.assertEqual(answers(ask(0, 0, 1, [1])), [1, -1])
        self.assertEqual(answers(slip(292194, 0)), [1, -1])
        self.assertEqual(answers(slip(0, 0)), [1, -4])
        self.assertEqual(answers(files_of(0, 0)), [1, -4])
        self.assertEqual(answers(waits(0, 0)), [1, -4])
        self.assertEqual(answers(joined([ask(0, 1, 1, [1]), waits(0, 0)])), [1, 0, 1, -5])
        self.assertEqual(answers(late(0, 292194)), [1, -1])
        self.assertEqual(answers(when(1, 0, 0)), [1, -3])

    def test_a_list_of_whole_numbers_is_given_back(self):
        told = answers(joined(self.row))
        self.assertIs(type(told), list)
        self.assertEqual({type(number) for number in told}, {int})

    def test_what_is_handed_in_stays_as_it_is(self):
        calls = joined(self.row)
        before = list(calls)
        answers(calls)
        self.assertEqual(calls, before)

    def test_what_is_handed_in_is_not_changed_for_a_while_either(self):
        calls = joined(self.row)
        self.assertEqual(answers(Fixed(calls)), answers(calls))

    def test_a_second_time_is_as_the_first(self):
        calls = joined(self.row)
        first = answers(calls)
        self.assertEqual(answers(calls), first)
        answers(joined([ask(500, 5, 5, [1, 2, 3])]))
        self.assertEqual(answers(calls), first)
        self.assertIsNot(answers(calls), first)

    def test_nothing_is_kept_without_begin_either(self):
        answers(ask(500, 5, 5, [1]))
        self.assertEqual(run([count(500), who(500, 1), ask(0, 1, 1, [1])]), [[0, 0], [0], [0]])
        self.assertEqual(run([slip(500, 0), files_of(500, 0), waits(500, 0), late(500, 900), when(500, 0, 500)]),
                         [[-4], [-4], [-4], [0], [-4]])

    def test_what_is_given_back_is_the_callers(self):
        calls = joined(self.row)
        first = answers(calls)
        kept = list(first)
        first.clear()
        self.assertEqual(answers(calls), kept)

    def test_nothing_is_printed(self):
        said = io.StringIO()
        with contextlib.redirect_stdout(said), contextlib.redirect_stderr(said):
            answers(joined(self.row))
        self.assertEqual(said.getvalue(), "")

    def test_seven_hundred_calls(self):
        told = run([ask(0, 1, 1, range(8))] + [who(0, 3)] * (MOST_CALLS - 1))
        self.assertEqual(told[1:], [[1, 0, 1, 0, 1]] * (MOST_CALLS - 1))

    def test_seven_hundred_calls_of_all_kinds(self):
        row = entries(512, 3)
        kinds = [begin()] + row + [count(3), who(3, 8), slip(3, 0), files_of(3, 0), waits(3, 2), late(3, 9)]
        told = run(kinds + [when(3, 2, 3)] * (MOST_CALLS - len(kinds)))
        number = len([call for call in row if call[0] == 2])
        self.assertEqual(told[513:518], [[number, 2], [1, 0, 1, 3, 8], [0, 3, 3, 5, 1, 1], [8] + list(range(1, 9)),
                                         [2, 0, 1]])
        self.assertEqual(told[518][1:9], list(range(1, 9)))
        self.assertEqual(told[519:], [[0, 13]] * (MOST_CALLS - 519))

    def test_the_longest_answers(self):
        """64 slips that wait one for another, asked 636 times whom the last of them waits for."""
        told = run(slips(64) + [waits(0, 63)] * (MOST_CALLS - 64))
        self.assertEqual(told[64:], [[63] + list(range(63))] * (MOST_CALLS - 64))
