"""The call event: what markup tells, thing by thing."""

import random
import unittest

from tests.calls import GREATEST, ask, ask_all_told, ask_event, asking_event, opening, split_told
from tests.markup_model import expected_check, told

TOLD = {
    "": [],
    "a": [(1, "a")],
    "{a}{{": [(1, "{a}{{")],
    "\x00\xff >\"'": [(1, "\x00\xff >\"'")],
    "&lt;&gt;&amp;&quot;&apos;": [(1, "<>&\"'")],
    "a&lt;b&amp;lt;c": [(1, "a<b&lt;c")],
    "&amp;amp;": [(1, "&amp;")],
    "<a>": [(2, "a")],
    "<Ab-9 \n>": [(2, "Ab-9")],
    "</Ab-9>": [(5, "Ab-9")],
    "<a></a>": [(2, "a"), (5, "a")],
    "<a>b</a>": [(2, "a"), (1, "b"), (5, "a")],
    "a<b>c</d>e": [(1, "a"), (2, "b"), (1, "c"), (5, "d"), (1, "e")],
    "<a b='c'>": [(2, "a"), (3, "b"), (4, "c")],
    "<a b=''>": [(2, "a"), (3, "b"), (4, "")],
    '<a b="">c': [(2, "a"), (3, "b"), (4, ""), (1, "c")],
    "<a b='' c=\"d\" e='f' >": [(2, "a"), (3, "b"), (4, ""), (3, "c"), (4, "d"), (3, "e"), (4, "f")],
    "<a b='>\"{/}'>": [(2, "a"), (3, "b"), (4, ">\"{/}")],
    "<a b=\">'&lt;x&quot;&gt;\">": [(2, "a"), (3, "b"), (4, ">'<x\">")],
    "<a b='&amp;&apos;&apos;'>&gt;": [(2, "a"), (3, "b"), (4, "&''"), (1, ">")],
    "x&lt;<a b='&lt;'>&lt;</a>&lt;y": [(1, "x<"), (2, "a"), (3, "b"), (4, "<"), (1, "<"), (5, "a"), (1, "<y")],
    "<a b='c' b='c'>": [(2, "a"), (3, "b"), (4, "c"), (3, "b"), (4, "c")],
}
NO_MARKUP = ["<", "&", "a&lt", "<a", "<a b>", "<a b='c", "x<a {}>", "</a >", "text<b>text&x;"]
PARTS = ["a", "b>", "&lt;", "&apos;", "<c>", "<d e='", "<f g=\"", "' h=''", "\" i='", "'>", "\">", "</j>", " ", "{", "\xff", "\x00", "&quot;"]


class Event(unittest.TestCase):
    def test_all_that_is_told_in_order(self):
        for markup, things in TOLD.items():
            with self.subTest(markup=markup):
                self.assertEqual(ask_all_told(markup), things)

    def test_numbers_written_out(self):
        self.assertEqual(ask([asking_event(0, "a&lt;")]), [[1, 2, 97, 60]])
        self.assertEqual(ask([asking_event(1, "<a bc=''>")]), [[3, 2, 98, 99]])
        self.assertEqual(ask([asking_event(2, "<a bc=''>")]), [[4, 0]])

    def test_numbers_beyond_what_is_told(self):
        for markup, things in TOLD.items():
            for number in [len(things), len(things) + 1, GREATEST]:
                self.assertEqual(ask_event(number, markup), [0], markup)

    def test_what_is_no_markup_is_refused_by_the_number_alone(self):
        for markup in NO_MARKUP:
            for number in [0, 1, GREATEST]:
                self.assertEqual(ask_event(number, markup), [-1], markup)

    def test_1024_bytes_are_read_and_1025_are_not(self):
        self.assertEqual(ask_event(0, "x" * 1024), (1, "x" * 1024))
        self.assertEqual(ask_event(1, "x" * 1024), [0])
        self.assertEqual(ask_event(0, "x" * 1025), [-2])
        self.assertEqual(ask_event(GREATEST, "x" * 2000), [-2])
        self.assertEqual(ask_event(1023, "<a></a>" * 146 + "xx"), [0])
        self.assertEqual(ask_event(291, "<a></a>" * 146 + "xx"), (5, "a"))
        self.assertEqual(ask_event(292, "<a></a>" * 146 + "xx"), (1, "xx"))

    def test_the_length_is_looked_at_ahead_of_the_fault(self):
        self.assertEqual(ask_event(0, "<" * 1025), [-2])
        self.assertEqual(ask_event(0, "<" * 1024), [-1])

    def test_event_may_be_called_at_any_time(self):
        calls = [asking_event(0, "a"), opening("a"), asking_event(0, "<b>"), asking_event(0, "<"), asking_event(9, "b"), [4], [4]]
        self.assertEqual(ask(calls), [[1, 1, 97], [0], [2, 1, 98], [-1], [0], [0], [-1]])

    def test_every_byte_as_text_and_in_values(self):
        for number in range(256):
            sign = chr(number)
            if sign not in "<&":
                self.assertEqual(ask_all_told(sign), [(1, sign)])
            if sign not in "<&\"":
                self.assertEqual(ask_event(2, f'<a b="{sign}">'), (4, sign))
            if sign not in "<&'":
                self.assertEqual(ask_event(2, f"<a b='{sign}'>"), (4, sign))


class EventAgainstTheModel(unittest.TestCase):
    def test_rows_of_parts(self):
        source = random.Random(6)
        taken = 0
        for case in range(3000):
            markup = "".join(source.choice(PARTS) for part in range(source.randint(1, 14)))
            if expected_check(markup) != [0]:
                self.assertEqual(ask_event(0, markup), [-1], markup)
            else:
                taken += 1
                things = told(markup)
                answers = ask([asking_event(number, markup) for number in range(len(things) + 1)])
                self.assertEqual([split_told(answer) for answer in answers[:-1]], things, markup)
                self.assertEqual(answers[-1], [0], markup)
        self.assertGreater(taken, 300)
