"""evenpack.packs.answers: how calls are written, and how answers are given back."""

import unittest

from evenpack.packs import answers

from asking import LARGEST, line

CALLS = [
    ("gives",), ("start", [5, 8, 6]), ("leak", [1, 2, 3]), ("hold", [2, 7, 3]), ("fill", 1), ("draw", 2),
    ("bleed", 1, 1), ("evens",), ("reach", 5), ("bleeds", 5), ("even",), ("start", [1] * 60), ("most",),
]


class Interface(unittest.TestCase):
    def test_written_out(self):
        calls = [0, 3, 5, 8, 6, 1, 3, 2, 7, 3, 2, 3, 0, 0, 1000, 3, 9, 4, 1, 5, 1, 1, 6, 7, 8, 5, 9, 5, 10, 11]
        self.assertEqual(answers(calls), [
            1, 3, 1, 12, 1, 0, 1, 1, 1, 1, 1, 6, 1, 1, 4, 3, 0, 0, 0, 1, 0, 1, 0, 1, 5, 1, 5])

    def test_a_refusal_is_one_number(self):
        self.assertEqual(answers([7, 0, 0, 0, 1, 4, 7, 5, 1, 1]), [1, -11, 1, -22, 1, 1, 2, 1, 0, 1, -2])

    def test_numbers_of_a_row_are_not_taken_for_calls(self):
        self.assertEqual(answers([0, 2, 11, 10, 1, 3, 0, 3, 10, 11]), [1, 2, 1, -22, 1, 10])
        self.assertEqual(answers([1, 60] + [0] * 60 + [0, 1, 4, 11]), [1, -11, 1, 1, 1, 4])

    def test_largest_numbers(self):
        self.assertEqual(answers([0, 1, LARGEST, 0, 1, 9, 1, 1, LARGEST, 2, 1, LARGEST, 3, LARGEST, 4, LARGEST]),
                         [1, -22, 1, 1] + [1, -22] * 4)
        self.assertEqual(answers([0, 1, 9, 5, LARGEST, LARGEST, 5, 0, LARGEST, 8, LARGEST, 9, LARGEST]),
                         [1, 1, 1, -2, 1, -12, 1, -33, 1, -33])

    def test_two_hundred_calls_with_lists_of_sixty(self):
        calls = line(("start", [5, 6]), *[("hold", [LARGEST] * 60)] * 199)
        self.assertEqual(answers(calls), [1, 2] + [1, -22] * 199)
        self.assertEqual(answers(line(*[("start", [1] * 60)] * 200)), [1, -22] * 200)

    def test_what_is_handed_in_stays(self):
        calls = line(*CALLS)
        before = list(calls)
        answers(calls)
        self.assertEqual(calls, before)

    def test_what_is_handed_in_is_never_changed_for_a_while(self):
        class Unchanging(list):
            def refuse(self, *given):
                raise AssertionError("the list that was handed in was changed")

            append = extend = insert = pop = remove = clear = sort = reverse = refuse
            __setitem__ = __delitem__ = __iadd__ = __imul__ = refuse

        self.assertEqual(answers(Unchanging(line(*CALLS))), answers(line(*CALLS)))

    def test_asked_twice_it_is_answered_alike(self):
        calls = line(*CALLS)
        first = answers(calls)
        kept = list(first)
        first.append(0)
        self.assertEqual(answers(calls), kept)

    def test_nothing_is_kept_from_one_time_to_the_next(self):
        answers(line(("start", [5]), ("hold", [5])))
        self.assertEqual(answers(line(("gives",))), [1, -11])
        self.assertEqual(answers(line(("start", [5]), ("draw", 5))), [1, 1, 1, 0])

    def test_what_is_given_back_is_plain_whole_numbers(self):
        given = answers(line(*CALLS))
        self.assertIs(type(given), list)
        self.assertEqual({type(number) for number in given}, {int})


if __name__ == "__main__":
    unittest.main()
