"""Longest cases: as many calls, as long an output and sections as deep as can be."""

import inspect
import sys
import unittest

from escapedplaces.templates import answers
from tests.calls import (
    CLOSE, GREATEST, MOST_TOLD, SIZE, ask, asking_event, asking_hole, checking, compiling, opening, putting, rendering, told_text,
)

# Each of 31 items has 79 holes of 64 bytes that are written with 6 bytes each.
LOOP_TEMPLATE = "<x y=\"{*a}" + "{b}" * 79 + "{/}\">"
LOOP_VALUES = [opening("a"), CLOSE] * 31 + [putting("b", "\"" * 64)]
LOOP_OUTPUT = "<x y=\"" + "&quot;" * (64 * 79 * 31) + "\">"
DEEP_TEMPLATE = "{*a}" * 15 + "{*c}" + "{b}" * 48 + "{/}" * 16
DEEP_VALUES = [opening("a")] * 15 + [opening("c"), CLOSE] * 16 + [CLOSE] * 15 + [putting("b", "<" * 64)]
DEEP_OUTPUT = "&lt;" * (64 * 48 * 16)


class Longest(unittest.TestCase):
    def test_the_longest_outputs_in_many_renders(self):
        for template, values, output in [
            (LOOP_TEMPLATE, LOOP_VALUES, LOOP_OUTPUT), (DEEP_TEMPLATE, DEEP_VALUES, DEEP_OUTPUT),
        ]:
            setup = [compiling(template)] + values
            places = range(0, len(output) + 1, MOST_TOLD)
            told = ask(setup + [SIZE] + [rendering(place, GREATEST) for place in places])[len(setup):]
            self.assertEqual(told[0], [0, len(output)])
            self.assertTrue("".join(told_text(piece[1:]) for piece in told[1:]) == output)

    def test_400_calls_on_the_longest_output(self):
        setup = [compiling(LOOP_TEMPLATE)] + LOOP_VALUES
        calls = setup + [SIZE] * (400 - len(setup))
        self.assertEqual(ask(calls)[len(setup):], [[0, len(LOOP_OUTPUT)]] * (400 - len(setup)))
        calls = setup + [putting("b", "'"), SIZE, putting("b", "\"" * 64), SIZE] * 80
        sizes = [8 + 79 * 31, len(LOOP_OUTPUT)] * 80
        self.assertEqual(ask(calls)[len(setup) + 1::2], [[0, size] for size in sizes])

    def test_140_renders_of_the_longest_outputs_end(self):
        setup = [compiling(LOOP_TEMPLATE)] + LOOP_VALUES
        from_place = len(LOOP_OUTPUT) - MOST_TOLD
        told = ask(setup + [rendering(from_place, GREATEST)] * 140)[len(setup):]
        self.assertEqual(told, [[MOST_TOLD] + [ord(sign) for sign in LOOP_OUTPUT[from_place:]]] * 140)

    def test_lists_of_as_many_numbers_as_can_be(self):
        markup = "<a b='&lt;'>" * 85 + "text"
        calls = [checking(markup), asking_event(255, markup)] * 14
        self.assertEqual(ask(calls), [[0], [1, 4] + [ord(sign) for sign in "text"]] * 14)
        self.assertEqual(answers(([8, 2000] + [60] * 2000) * 15), [1, -2] * 15)

    def test_400_holes_asked_for(self):
        calls = [compiling("{a}" * 85)] + [asking_hole(number) for number in range(399)]
        self.assertEqual(ask(calls), [[0]] + [[1, 1, 97]] * 85 + [[0]] * 314)


class CallsWithinOneAnother(unittest.TestCase):
    def test_they_dont_grow_with_the_input(self):
        markup = "<a b='&lt;'>" * 85 + "text"
        template = "{?b}" * 16 + "x" * 100 + "{/}" * 16
        cases = [
            ([compiling(DEEP_TEMPLATE)] + DEEP_VALUES + [SIZE], [0, len(DEEP_OUTPUT)]),
            ([compiling(template), putting("b", "y"), SIZE], [0, 100]),
            ([checking(markup)], [0]), ([asking_event(0, markup)], [2, 1, 97]), ([checking("x" * 1024)], [0]),
            ([compiling("{a}" * 85), asking_hole(84)], [1, 1, 97]),
        ]
        limit = sys.getrecursionlimit()
        sys.setrecursionlimit(len(inspect.stack()) + 30)
        try:
            told = [ask(calls)[-1] for calls, answer in cases]
        finally:
            sys.setrecursionlimit(limit)
        self.assertEqual(told, [answer for calls, answer in cases])
