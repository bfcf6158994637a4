"""The six calls at ordinary inputs, the document's run, and the form of what goes in and out."""

import contextlib
import io
import unittest

from slipshelf.binder import answers
from tests.helper import ask, back, begin, count, drop, joined, last, run, who


class Ordinary(unittest.TestCase):
    def test_begin_answers_nought(self):
        self.assertEqual(run([begin()]), [[0]])

    def test_begin_makes_the_object_new(self):
        told = run([
            ask(50, 1, 5, [1]), ask(60, 2, 5, [1]), begin(),
            count(60), who(60, 1), drop(60, 0), back(60, 1), ask(3, 9, 4, [1]), who(3, 1),
        ])
        self.assertEqual(told[2:], [[0], [0, 0], [0], [-4], [-5], [0], [1, 0, 9, 3, 7]])

    def test_a_list_may_do_without_begin(self):
        self.assertEqual(run([count(0), ask(0, 1, 1, [0])]), [[0, 0], [0]])

    def test_begin_makes_room_again(self):
        full = [ask(0, 1, 1, [5]) for number in range(64)]
        self.assertEqual(last(*full, begin(), ask(0, 1, 1, [5])), [0])

    def test_ask_answers_the_number_served_or_not(self):
        told = run([ask(10, 1, 5, [1, 2]), ask(10, 2, 5, [2, 3]), ask(11, 3, 5, [4]), drop(11, 1), ask(11, 3, 5, [9])])
        self.assertEqual(told, [[0], [1], [2], [0], [3]])

    def test_back_answers_how_many_are_served(self):
        told = run([ask(1, 1, 5, [1, 2]), ask(1, 2, 5, [1]), back(2, 2), back(2, 1), back(3, 1)])
        self.assertEqual(told[2:], [[0], [1], [0]])

    def test_drop_answers_how_many_are_served(self):
        told = run([ask(1, 1, 5, [1]), ask(1, 2, 5, [1, 2]), ask(1, 3, 5, [2]), drop(2, 1), who(2, 2), count(2)])
        self.assertEqual(told[3:], [[1], [1, 2, 3, 2, 7], [3, 0]])

    def test_count_tells_all_slips_and_those_that_wait(self):
        told = run([
            count(5), ask(5, 1, 5, [1]), ask(5, 1, 5, [1]), ask(5, 1, 5, [1]), count(5),
            drop(6, 2), count(6), back(7, 1), count(7), back(8, 1), count(8),
        ])
        self.assertEqual([told[at] for at in (0, 4, 6, 8, 10)], [[0, 0], [3, 2], [3, 1], [3, 0], [3, 0]])

    def test_who_tells_slip_reader_since_and_due(self):
        told = run([ask(3, 1, 9, [4]), ask(20, 77, 6, [5, 8]), who(20, 5), who(20, 8), who(20, 6), back(22, 5),
                    who(22, 5), who(22, 8)])
        self.assertEqual(told[2:], [[1, 1, 77, 20, 26], [1, 1, 77, 20, 26], [0], [0], [0], [1, 1, 77, 20, 26]])

    def test_due_counts_from_the_serving(self):
        told = run([ask(10, 1, 5, [1]), ask(11, 2, 7, [1]), back(30, 1), who(30, 1)])
        self.assertEqual(told[3], [1, 1, 2, 30, 37])


class TheRun(unittest.TestCase):
    """The run of the document, entry by entry, as far as these calls go."""

    def setUp(self):
        self.calls = []

    def tell(self, call, answer):
        self.calls.append(call)
        self.assertEqual(run(self.calls)[-1], answer)

    def test_run(self):
        self.tell(begin(), [0])
        self.tell(ask(10, 1, 5, [1, 2]), [0])
        self.tell(who(10, 1), [1, 0, 1, 10, 15])
        self.tell(who(10, 2), [1, 0, 1, 10, 15])
        self.tell(ask(10, 2, 7, [2, 3]), [1])
        self.tell(count(10), [2, 1])
        self.tell(who(10, 3), [0])
        self.tell(ask(10, 3, 1, [3]), [2])
        self.tell(count(10), [3, 2])
        self.tell(who(10, 3), [0])
        self.tell(ask(10, 4, 2, [9]), [3])
        self.tell(count(10), [4, 2])
        self.tell(who(10, 9), [1, 3, 4, 10, 12])
        self.tell(back(12, 2), [1])
        self.tell(who(12, 1), [1, 0, 1, 10, 15])
        self.tell(who(12, 2), [1, 1, 2, 12, 19])
        self.tell(who(12, 3), [1, 1, 2, 12, 19])
        self.tell(count(12), [4, 1])
        self.tell(back(12, 1), [0])
        self.tell(who(12, 1), [0])
        self.tell(drop(13, 2), [0])
        self.tell(count(13), [4, 0])
        self.tell(back(20, 3), [0])
        self.tell(who(13, 3), [1, 1, 2, 12, 19])
        self.tell(who(20, 3), [0])
        self.tell(who(20, 2), [1, 1, 2, 12, 19])
        self.tell(count(10), [4, 2])
        self.tell(count(12), [4, 1])
        self.tell(count(20), [4, 0])


class Fixed(list):
    """A list that can be read alone."""

    def refuse(self, *given, **named):
        raise AssertionError("what is handed in is changed")

    __setitem__ = __delitem__ = __iadd__ = __imul__ = refuse
    append = clear = extend = insert = pop = remove = reverse = sort = refuse


class Form(unittest.TestCase):
    row = [
        begin(), ask(10, 1, 5, [1, 2]), ask(10, 2, 7, [2, 3]), who(10, 2), back(12, 2), ask(12, 0, 1, [1]),
        ask(11, 1, 1, [1]), drop(12, 9), drop(12, 0), count(12), who(12, 3), back(12, 1), ask(12, 6, 6, []),
    ]

    def test_an_empty_list_answers_an_empty_list(self):
        self.assertEqual(answers([]), [])

    def test_each_answer_stands_behind_its_length(self):
        calls = joined([begin(), ask(10, 1, 5, [1, 2]), count(10), who(10, 2), who(10, 3), ask(9, 1, 5, [1])])
        self.assertEqual(answers(calls), [1, 0, 1, 0, 2, 1, 0, 5, 1, 0, 1, 10, 15, 1, 0, 1, -3])

    def test_a_refusal_is_its_number_alone(self):
        self.assertEqual(answers(count(292194)), [1, -1])
        self.assertEqual(answers(who(0, 16384)), [1, -1])
        self.assertEqual(answers(ask(0, 0, 1, [1])), [1, -1])

    def test_a_list_of_whole_numbers_is_given_back(self):
        told = answers(joined(self.row))
        self.assertIs(type(told), list)
        self.assertEqual({type(number) for number in told}, {int})

    def test_what_is_handed_in_stays_as_it_is(self):
        calls = joined(self.row)
        before = list(calls)
        answers(calls)
        self.assertEqual(calls, before)

    def test_what_is_handed_in_is_not_changed_for_a_while_either(self):
        calls = joined(self.row)
        self.assertEqual(answers(Fixed(calls)), answers(calls))

    def test_a_second_time_is_as_the_first(self):
        calls = joined(self.row)
        first = answers(calls)
        self.assertEqual(answers(calls), first)
        answers(joined([ask(500, 5, 5, [1, 2, 3])]))
        self.assertEqual(answers(calls), first)
        self.assertIsNot(answers(calls), first)

    def test_nothing_is_kept_without_begin_either(self):
        answers(ask(500, 5, 5, [1]))
        self.assertEqual(run([count(500), who(500, 1), ask(0, 1, 1, [1])]), [[0, 0], [0], [0]])

    def test_what_is_given_back_is_the_callers(self):
        calls = joined(self.row)
        first = answers(calls)
        kept = list(first)
        first.clear()
        self.assertEqual(answers(calls), kept)

    def test_nothing_is_printed(self):
        said = io.StringIO()
        with contextlib.redirect_stdout(said), contextlib.redirect_stderr(said):
            answers(joined(self.row))
        self.assertEqual(said.getvalue(), "")

    def test_seven_hundred_calls(self):
        told = run([ask(0, 1, 1, range(8))] + [who(0, 3)] * 699)
        self.assertEqual(told[1:], [[1, 0, 1, 0, 1]] * 699)
