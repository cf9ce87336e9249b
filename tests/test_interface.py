"""evenpack.packs.answers: how calls are written, and how answers are given back."""

import builtins
import contextlib
import io
import sys
import unittest
from unittest import mock

from evenpack.packs import answers

from asking import LARGEST, NUMBER_OF, line
from many import lists_of_calls

CALLS = [
    ("gives",), ("start", [5, 8, 6]), ("leak", [1, 2, 3]), ("hold", [2, 7, 3]), ("fill", 1), ("draw", 2),
    ("bleed", 1, 1), ("evens",), ("reach", 5), ("bleeds", 5), ("even",), ("start", [1] * 60), ("most",),
    ("lacks",), ("weakest",), ("fullest",), ("days", 1), ("when", 5), ("swap", 0, 9, 4), ("gain", 1, 3),
    ("best", 9), ("units",), ("look", 1), ("look", 9), ("state",), ("start", [7, 9]), ("swap", 1, 8, 8), ("gives",),
]


def refuse(*given, **named):
    raise AssertionError("a function of Python's own was called that is not to be called")


class Interface(unittest.TestCase):
    def test_written_out(self):
        calls = [0, 3, 5, 8, 6, 1, 3, 2, 7, 3, 2, 3, 0, 0, 1000, 3, 9, 4, 1, 5, 1, 1, 6, 7, 8, 5, 9, 5, 10, 11]
        self.assertEqual(answers(calls), [
            1, 3, 1, 12, 1, 0, 1, 1, 1, 1, 1, 6, 1, 1, 4, 3, 0, 0, 0, 1, 0, 1, 0, 1, 5, 1, 5])

    def test_written_out_from_lacks_on(self):
        calls = [0, 3, 5, 8, 6, 1, 3, 2, 7, 3, 2, 3, 1, 2, 0, 12, 13, 14, 15, 1, 16, 5, 17, 0, 9, 4, 18, 1, 3, 19, 7]
        self.assertEqual(answers(calls + [20, 21, 1, 22]), [
            1, 3, 1, 12, 1, 0, 4, 3, 3, 1, 3, 2, 2, 0, 2, 1, 1, 1, 3, 1, 0, 1, 1, 1, -3, 2, 2, 7,
            6, 12, 16, 0, 1, 0, 3, 3, 5, 8, 2, 3, 3, 6, 6])

    def test_refusals_from_lacks_on(self):
        calls = [15, 0, 16, 0, 17, 2, 1, 1, 17, 0, 0, 0, 18, 2, 1, 18, 0, 0, 19, 0, 19, 1, 21, 2]
        self.assertEqual(answers([0, 2, 5, 5] + calls), [
            1, 2, 1, -22, 1, -33, 1, -2, 1, -22, 1, -2, 1, -22, 1, -22, 1, -33, 1, -2])

    def test_before_a_start_numbers_of_a_call_are_not_taken_for_calls(self):
        calls = [15, 22, 16, 22, 17, 22, 22, 22, 18, 22, 22, 19, 22, 21, 22, 5, 22, 22, 12, 13, 14, 20, 22]
        self.assertEqual(answers(calls), [1, -11] * 12)

    def test_every_call_is_among_those_tried_here(self):
        self.assertEqual({call[0] for call in CALLS}, set(NUMBER_OF))

    def test_a_refusal_is_one_number(self):
        self.assertEqual(answers([7, 0, 0, 0, 1, 4, 7, 5, 1, 1]), [1, -11, 1, -22, 1, 1, 2, 1, 0, 1, -2])

    def test_numbers_of_a_row_are_not_taken_for_calls(self):
        self.assertEqual(answers([0, 2, 11, 10, 1, 3, 0, 3, 10, 11]), [1, 2, 1, -22, 1, 10])
        self.assertEqual(answers([1, 60] + [0] * 60 + [0, 1, 4, 11]), [1, -11, 1, 1, 1, 4])

    def test_largest_numbers(self):
        self.assertEqual(answers([0, 1, LARGEST, 0, 1, 9, 1, 1, LARGEST, 2, 1, LARGEST, 3, LARGEST, 4, LARGEST]),
                         [1, -22, 1, 1] + [1, -22] * 4)
        self.assertEqual(answers([0, 1, 9, 5, LARGEST, LARGEST, 5, 0, LARGEST, 8, LARGEST, 9, LARGEST]),
                         [1, 1, 1, -2, 1, -12, 1, -33, 1, -33])
        calls = [15, LARGEST, 16, LARGEST, 17, LARGEST, LARGEST, LARGEST, 17, 0, LARGEST, LARGEST, 17, 0, 9, LARGEST]
        calls += [18, LARGEST, LARGEST, 18, 0, LARGEST, 19, LARGEST, 21, LARGEST]
        self.assertEqual(answers([0, 1, 9] + calls), [
            1, 1, 1, -22, 1, 0, 1, -2, 1, -22, 1, -22, 1, -2, 1, -22, 1, -22, 1, -2])

    def test_two_hundred_calls_with_lists_of_sixty(self):
        calls = line(("start", [5, 6]), *[("hold", [LARGEST] * 60)] * 199)
        self.assertEqual(answers(calls), [1, 2] + [1, -22] * 199)
        self.assertEqual(answers(line(*[("start", [1] * 60)] * 200)), [1, -22] * 200)

    def test_two_hundred_calls_with_the_longest_answers(self):
        calls = line(("start", [5] * 10), *[("lacks",), ("evens",)] * 99, ("units",))
        self.assertEqual(answers(calls), [1, 10] + ([11, 10] + [5] * 10 + [11, 10] + [0] * 10) * 99 + [6] + [0] * 6)

    def test_two_hundred_calls_that_look_a_thousand_days_ahead(self):
        calls = line(("start", [10000] * 10), ("hold", [10000] * 10), ("leak", [1] * 10), *[("when", 10000)] * 197)
        self.assertEqual(answers(calls), [1, 10, 1, 100000, 1, 0] + [1, -33] * 197)

    def test_what_is_handed_in_stays(self):
        calls = line(*CALLS)
        before = list(calls)
        answers(calls)
        self.assertEqual(calls, before)

    def test_what_is_handed_in_is_never_changed_for_a_while(self):
        class Unchanging(list):
            def refuse(self, *given):
                raise AssertionError("the list that was handed in was changed")

            append = extend = insert = pop = remove = clear = sort = reverse = refuse
            __setitem__ = __delitem__ = __iadd__ = __imul__ = refuse

        for calls in [CALLS, *lists_of_calls(50, 60, 9)]:
            self.assertEqual(answers(Unchanging(line(*calls))), answers(line(*calls)))

    def test_lists_asked_in_turn_know_nothing_of_one_another(self):
        lists = [line(*calls) for calls in lists_of_calls(60, 40, 9)]
        first = [answers(calls) for calls in lists]
        self.assertEqual([answers(calls) for calls in reversed(lists)], first[::-1])

    def test_it_prints_reads_and_imports_nothing(self):
        calls = [line(*calls) for calls in [CALLS, *lists_of_calls(20, 60, 9)]]
        loaded = set(sys.modules)
        shown = io.StringIO()
        with contextlib.redirect_stdout(shown), contextlib.redirect_stderr(shown), \
                mock.patch.object(sys, "stdin", None), mock.patch.object(builtins, "open", refuse), \
                mock.patch.object(builtins, "input", refuse), mock.patch.object(builtins, "__import__", refuse):
            for numbers in calls:
                answers(numbers)
        self.assertEqual(shown.getvalue(), "")
        self.assertEqual(set(sys.modules), loaded)

    def test_asked_twice_it_is_answered_alike(self):
        calls = line(*CALLS)
        first = answers(calls)
        kept = list(first)
        first.append(0)
        self.assertEqual(answers(calls), kept)

    def test_nothing_is_kept_from_one_time_to_the_next(self):
        answers(line(("start", [5]), ("hold", [5])))
        self.assertEqual(answers(line(("gives",))), [1, -11])
        self.assertEqual(answers(line(("start", [5]), ("draw", 5))), [1, 1, 1, 0])

    def test_what_is_given_back_is_plain_whole_numbers(self):
        for calls in [CALLS, *lists_of_calls(50, 60, 9)]:
            given = answers(line(*calls))
            self.assertIs(type(given), list)
            self.assertEqual({type(number) for number in given}, {int})


if __name__ == "__main__":
    unittest.main()
