"""The interface: how the calls stand in one list, and how the answers are given back."""

import unittest

from escapedplaces.templates import answers
from tests.calls import CLEAR, CLOSE, compiling, opening, putting

MIXED = (
    compiling("{a}") + putting("a", "v") + opening("b") + putting("c", "") + compiling("<a {") + CLOSE + CLOSE
    + compiling("x" * 257) + putting("9", "") + putting("a", "v" * 65) + CLEAR
)
MIXED_ANSWERS = [1, 0, 1, 0, 1, 0, 1, 0, 2, -1, 4, 1, 0, 1, -1, 1, -2, 1, -1, 1, -2, 1, 0]


class Answers(unittest.TestCase):
    def test_numbers_written_out(self):
        self.assertEqual(answers([0, 0]), [1, 0])
        self.assertEqual(answers([0, 3, 123, 97, 125]), [1, 0])
        self.assertEqual(answers([0, 1, 60]), [2, -1, 1])
        self.assertEqual(answers([0, 2, 60, 60]), [2, -1, 1])
        self.assertEqual(answers([0, 257] + [120] * 257), [1, -2])
        self.assertEqual(answers([1]), [1, 0])
        self.assertEqual(answers([2, 1, 97, 0]), [1, 0])
        self.assertEqual(answers([2, 1, 97, 2, 1, 2, 2, 0, 0]), [1, 0, 1, -1])
        self.assertEqual(answers([3, 1, 97, 4, 4]), [1, 0, 1, 0, 1, -1])

    def test_one_call_behind_another(self):
        self.assertEqual(answers(list(MIXED)), MIXED_ANSWERS)

    def test_rows_of_the_greatest_lengths(self):
        calls = [0, 2000] + [255] * 2000 + [2, 200] + [97] * 200 + [200] + [0] * 200 + [3, 200] + [97] * 200 + [4]
        self.assertEqual(answers(calls), [1, -2, 1, -1, 1, -1, 1, -1])

    def test_400_calls(self):
        self.assertEqual(answers([4] * 400), [1, -1] * 400)
        calls = compiling("{?a}" * 16 + "{/}" * 16) * 200 + compiling("{?a}" * 17) * 200
        self.assertEqual(answers(calls), [1, 0] * 200 + [2, -1, 65] * 200)

    def test_what_is_handed_in_stays_as_it_was(self):
        calls = list(MIXED)
        answers(calls)
        self.assertEqual(calls, MIXED)

    def test_two_times_in_a_row_know_nothing_of_one_another(self):
        self.assertEqual(answers(list(MIXED)), answers(list(MIXED)))
        self.assertEqual(answers(opening("a")), [1, 0])
        self.assertEqual(answers(CLOSE), [1, -1])
        full = [number for letter in "abcdefghijklmnopqrstuvwxyzABCDEF" for number in putting(letter, "")]
        self.assertEqual(answers(full), [1, 0] * 32)
        self.assertEqual(answers(full + putting("x1", "")), [1, 0] * 32 + [1, -2])
        self.assertEqual(answers(opening("a")), [1, 0])

    def test_what_is_given_back_is_a_new_list_of_whole_numbers(self):
        calls = list(MIXED)
        told = answers(calls)
        self.assertIs(type(told), list)
        self.assertEqual({type(number) for number in told}, {int})
        told.append(7)
        self.assertEqual(answers(calls), MIXED_ANSWERS)

    def test_a_number_that_is_no_call_is_an_error(self):
        with self.assertRaises(ValueError):
            answers([10])
