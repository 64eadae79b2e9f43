"""The interface: how the calls stand in one list, and how the answers are given back."""

import unittest

from escapedplaces.templates import answers
from tests.calls import (
    CLEAR, CLOSE, GREATEST, SIZE, asking_event, asking_hole, checking, compiling, opening, putting, rendering,
)

MIXED = (
    compiling("{a}") + putting("a", "v") + opening("b") + SIZE + putting("c", "") + compiling("<a {") + CLOSE + CLOSE
    + compiling("x" * 257) + putting("9", "") + putting("a", "v" * 65) + SIZE + rendering(0, GREATEST) + asking_hole(0)
    + asking_hole(1) + checking("<") + asking_event(0, "&lt;") + asking_event(0, "<") + CLEAR + SIZE + rendering(0, GREATEST)
)
MIXED_ANSWERS = [
    1, 0, 1, 0, 1, 0, 1, -1, 1, 0, 2, -1, 4, 1, 0, 1, -1, 1, -2, 1, -1, 1, -2, 2, 0, 1, 2, 1, 118, 3, 1, 1, 97,
    1, 0, 2, -1, 1, 3, 1, 1, 60, 1, -1, 1, 0, 2, 0, 0, 1, 0,
]


class Answers(unittest.TestCase):
    def test_numbers_written_out(self):
        self.assertEqual(answers([0, 0]), [1, 0])
        self.assertEqual(answers([0, 3, 123, 97, 125]), [1, 0])
        self.assertEqual(answers([0, 1, 60]), [2, -1, 1])
        self.assertEqual(answers([0, 2, 60, 60]), [2, -1, 1])
        self.assertEqual(answers([0, 257] + [120] * 257), [1, -2])
        self.assertEqual(answers([1]), [1, 0])
        self.assertEqual(answers([2, 1, 97, 0]), [1, 0])
        self.assertEqual(answers([2, 1, 97, 2, 1, 2, 2, 0, 0]), [1, 0, 1, -1])
        self.assertEqual(answers([3, 1, 97, 4, 4]), [1, 0, 1, 0, 1, -1])

    def test_numbers_written_out_for_the_calls_that_ask(self):
        self.assertEqual(answers([5]), [1, -1])
        self.assertEqual(answers([6, 0, 1]), [1, -1])
        self.assertEqual(answers([7, 0]), [1, -1])
        self.assertEqual(answers([0, 1, 97, 5, 6, 0, 9, 6, 1, 9]), [1, 0, 2, 0, 1, 2, 1, 97, 1, 0])
        self.assertEqual(answers([0, 4, 123, 97, 98, 125, 7, 0, 7, 1]), [1, 0, 4, 1, 2, 97, 98, 1, 0])
        self.assertEqual(answers([8, 0, 8, 1, 60, 8, 1025] + [120] * 1025), [1, 0, 2, -1, 1, 1, -2])
        self.assertEqual(answers([9, 0, 3, 60, 97, 62, 9, 1, 3, 60, 97, 62, 9, 0, 0]), [3, 2, 1, 97, 1, 0, 1, 0])
        self.assertEqual(answers([9, 0, 1, 38, 9, 0, 1025] + [120] * 1025), [1, -1, 1, -2])
        self.assertEqual(answers([6, GREATEST, GREATEST, 7, GREATEST, 9, GREATEST, 1, 97]), [1, -1, 1, -1, 1, 0])

    def test_one_call_behind_another(self):
        self.assertEqual(answers(list(MIXED)), MIXED_ANSWERS)

    def test_rows_of_the_greatest_lengths(self):
        calls = [0, 2000] + [255] * 2000 + [2, 200] + [97] * 200 + [200] + [0] * 200 + [3, 200] + [97] * 200 + [4]
        self.assertEqual(answers(calls), [1, -2, 1, -1, 1, -1, 1, -1])

    def test_400_calls(self):
        self.assertEqual(answers([4] * 400), [1, -1] * 400)
        calls = compiling("{?a}" * 16 + "{/}" * 16) * 200 + compiling("{?a}" * 17) * 200
        self.assertEqual(answers(calls), [1, 0] * 200 + [2, -1, 65] * 200)

    def test_what_is_handed_in_stays_as_it_was(self):
        calls = list(MIXED)
        answers(calls)
        self.assertEqual(calls, MIXED)

    def test_two_times_in_a_row_know_nothing_of_one_another(self):
        self.assertEqual(answers(list(MIXED)), answers(list(MIXED)))
        self.assertEqual(answers(opening("a")), [1, 0])
        self.assertEqual(answers(CLOSE), [1, -1])
        full = [number for letter in "abcdefghijklmnopqrstuvwxyzABCDEF" for number in putting(letter, "")]
        self.assertEqual(answers(full), [1, 0] * 32)
        self.assertEqual(answers(full + putting("x1", "")), [1, 0] * 32 + [1, -2])
        self.assertEqual(answers(opening("a")), [1, 0])
        self.assertEqual(answers(compiling("{a}") + putting("a", "v") + SIZE), [1, 0, 1, 0, 2, 0, 1])
        self.assertEqual(answers(SIZE + asking_hole(0) + compiling("{a}") + SIZE), [1, -1, 1, -1, 1, 0, 2, 0, 0])

    def test_what_is_given_back_is_a_new_list_of_whole_numbers(self):
        calls = list(MIXED)
        told = answers(calls)
        self.assertIs(type(told), list)
        self.assertEqual({type(number) for number in told}, {int})
        told.append(7)
        self.assertEqual(answers(calls), MIXED_ANSWERS)

    def test_a_number_that_is_no_call_is_an_error(self):
        with self.assertRaises(ValueError):
            answers([10])
