"""The model that compile is held against, held against the document's own words."""

import unittest

from tests.template_model import expected_answer, is_template, template_that_begins_with


class TemplateModel(unittest.TestCase):
    def test_the_documents_example_is_a_template(self):
        self.assertTrue(is_template('<a b="{?x}">t<c d="{/}">'))

    def test_a_value_between_other_quotes_is_another_place(self):
        self.assertFalse(is_template('<a b="{?x}">t<c d=\'{/}\'>'))

    def test_a_beginning_is_led_to_its_end(self):
        template = template_that_begins_with('<a b="{?x}')
        self.assertTrue(template.startswith('<a b="{?x}'))
        self.assertTrue(is_template(template))

    def test_answers_read_off_the_document(self):
        self.assertEqual(expected_answer(""), [0])
        self.assertEqual(expected_answer("&l"), [-1, 2])
        self.assertEqual(expected_answer("&x"), [-1, 1])
        self.assertEqual(expected_answer("{/}"), [-1, 1])
        self.assertEqual(expected_answer("x" * 257), [-2])
