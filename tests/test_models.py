"""The models that check, event and the output are held against, held against the document's own words."""

import unittest

from tests.markup_model import expected_check, is_markup, some_markup_begins_with, told
from tests.output_model import calls_for, expected_output, expected_told
from tests.calls import CLOSE, opening, putting


class MarkupModel(unittest.TestCase):
    def test_what_is_markup(self):
        for text in ["", "a>", "&lt;", "<a>", "<a b='c'\td=\"'\" >", "</a>", "{", "{/}"]:
            self.assertTrue(is_markup(text), text)
        for text in ["<", "&", "&x;", "<a", "<a b>", "<a b='c'd='e'>", "</a >", "<a {}>"]:
            self.assertFalse(is_markup(text), text)

    def test_beginnings(self):
        for text in ["<", "&q", "<a b='&", "<a b=\"&apo", "</", "<a b='c'", "<a b="]:
            self.assertTrue(some_markup_begins_with(text), text)
        for text in ["<<", "&x", "<a b='&'", "</a ", "<a b=c"]:
            self.assertFalse(some_markup_begins_with(text), text)

    def test_answers_read_off_the_document(self):
        self.assertEqual(expected_check("a"), [0])
        self.assertEqual(expected_check("a<"), [-1, 2])
        self.assertEqual(expected_check("a<<"), [-1, 2])
        self.assertEqual(expected_check("<" * 1025), [-2])

    def test_things_told(self):
        things = [(1, "a<b"), (2, "c"), (3, "d"), (4, "e\""), (3, "f"), (4, ""), (2, "g"), (5, "h"), (1, " x")]
        self.assertEqual(told("a&lt;b<c d='e&quot;' f=\"\"  ><g></h> x"), things)


class OutputModel(unittest.TestCase):
    def test_calls(self):
        scope = {"a": "1", "b": [{"c": "2"}, {}]}
        self.assertEqual(calls_for(scope), [putting("a", "1"), opening("b"), putting("c", "2"), CLOSE, opening("b"), CLOSE])

    def test_output_and_what_it_tells(self):
        scope = {"a": "<\"'", "b": [{"c": "2"}, {"c": "&"}], "e": ""}
        template = "{{{*b}{c}{a}{/}{?e}x{/}{!e}<d e='{a}' f=\"{a}\">{/}"
        output = "{2&lt;\"'&amp;&lt;\"'<d e='&lt;\"&apos;' f=\"&lt;&quot;'\">"
        self.assertEqual(expected_output(template, scope), output)
        things = [(1, "{2<\"'&<\"'"), (2, "d"), (3, "e"), (4, "<\"'"), (3, "f"), (4, "<\"'")]
        self.assertEqual(expected_told(template, scope), things)
