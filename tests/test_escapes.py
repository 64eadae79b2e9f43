"""Promises 1 and 2: a value in its place reads back as it was, nothing shorter would, and none breaks out."""

import random
import unittest

from tests.calls import ask, ask_all_told, ask_check, ask_event, ask_filled, asking_event, checking, compiling, putting, split_told
from tests.markup_model import MEANINGS, told
from tests.output_model import calls_for, expected_output, expected_told
from tests.template_model import grown_template

# What stands around a hole in each kind of place, the quote that ends it there, and which thing the value is.
PLACES = [("", "", "", 0), ("<a b=\"", "\">", "\"", 2), ("<a b='", "'>", "'", 2)]
ATTACKS = [
    "<script>", "</b>", "\"><c d=\"", "'><c d='", "&lt;", "&amp;lt;", "&", "&&amp;", "<!--", "\" onload=\"x", "' x='", "{a}", "{{", "{/}",
    "&quot;", "&apos;", ">", "\"'\"'", "<<<>>>", "&#60;", "lt;", "a&", "\x00\n\r\t\xff", " ", "=", "<" * 64, "&" * 64, "\"" * 64, "'" * 64,
]
# Whole tags and tags' parts, so that templates grow both long and odd.
PARTS = [
    "<a", "<b ", "</c>", "'>", "\">", ">", " ", "\n", "d='{x}", 'e="{y}', "f='", 'g="', "'", '"', "t", "&lt;", "&apos;", "{{", "}", "{x}",
    "{y}", "{z}", "{*l}", "{*m}", "{*l}", "{*x}", "{?x}", "{?z}", "{?l}", "{!y}", "{!m}", "{/}", "{/}", "{/}", "{/}", "<h i='{x}'>",
    "<j k=\"{y}\"", "<j k=\"{x}{z}\">", "{*l}{x}{/}", "{y}<o>", "<p q='{*l}{x}{/}' r=\"{z}{y}\">", "<u {*l}v='{x}' {/}>", "<w x=''{*m} y=\"{y}\"{/}>",
]
VALUE_SIGNS = "<>&<&\"'\"'\"'{}/;= abltquo\x00\x80\xff\n"


def written(sign, quote):
    if sign in "<&" or sign == quote:
        return {meaning: reference for reference, meaning in MEANINGS.items()}[sign]
    return sign


def random_value(source):
    if source.random() < 0.2:
        return source.choice(ATTACKS)[:8]
    return "".join(source.choice(VALUE_SIGNS) for sign in range(source.choice([0, 1, 2, 3, 6])))


def random_scope(source, depth):
    scope = {}
    for name in source.sample("xyzlm", source.randint(2, 5)):
        is_list = source.random() < (0.8 if name in "lm" else 0.1)
        if is_list and depth > 0:
            scope[name] = [random_scope(source, depth - 1) for item in range(source.randint(1, 3))]
        else:
            scope[name] = random_value(source)
    return scope


class EveryByte(unittest.TestCase):
    def test_only_what_must_be_is_written_as_a_reference(self):
        for before, after, quote, thing in PLACES:
            for number in range(256):
                sign = chr(number)
                template = before + "{v}" + after
                output = ask_filled(template, [putting("v", sign)])
                self.assertEqual(output, before + written(sign, quote) + after, number)

    def test_it_reads_back_and_nothing_shorter_does(self):
        for before, after, quote, thing in PLACES:
            for number in range(256):
                sign = chr(number)
                output = ask_filled(before + "{v}" + after, [putting("v", sign)])
                # A byte of text or of a value is told by itself or by a reference, and by nothing else.
                ways = [before + way + after for way in [sign] + list(MEANINGS)]
                reading_back = [way for way in ways if ask_event(thing, way) == (4 if thing else 1, sign)]
                self.assertIn(output, reading_back)
                self.assertEqual(len(output), min(len(way) for way in reading_back), number)

    def test_values_of_all_bytes_at_once(self):
        everything = "".join(chr(number) for number in range(256))
        values = {name: everything[64 * place:64 * place + 64] for place, name in enumerate("abcd")}
        for before, after, quote, thing in PLACES:
            output = ask_filled(before + "{a}{b}{c}{d}" + after, calls_for(values))
            self.assertEqual(output, before + "".join(written(sign, quote) for sign in everything) + after)
            self.assertEqual(ask_event(thing, output), (4 if thing else 1, everything))


class Attacks(unittest.TestCase):
    def test_a_value_is_told_as_it_was_in_each_place(self):
        for value in ATTACKS:
            values = [putting("v", value)]
            output = ask_filled("p{v}q<c>{v}{v}</d>", values)
            self.assertEqual(ask_check(output), [0])
            self.assertEqual(ask_all_told(output), [(1, f"p{value}q"), (2, "c"), (1, value + value), (5, "d")])
            output = ask_filled("<a b=\"{v}\" c='{v}'>", values)
            self.assertEqual(ask_check(output), [0])
            self.assertEqual(ask_all_told(output), [(2, "a"), (3, "b"), (4, value), (3, "c"), (4, value)])

    def test_a_value_joins_nothing_around_it(self):
        for template, values, things in [
            ("{a}lt;", {"a": "&"}, [(1, "&lt;")]),
            ("&lt;{a}", {"a": "lt;"}, [(1, "<lt;")]),
            ("{a}{b}", {"a": "&", "b": "amp;"}, [(1, "&amp;")]),
            ("{a}a>", {"a": "<"}, [(1, "<a>")]),
            ("{a}/a>", {"a": "<"}, [(1, "</a>")]),
            ("<a b='{a}{b}'>", {"a": "'", "b": " c='"}, [(2, "a"), (3, "b"), (4, "' c='")]),
            ("{a}", {"a": ""}, []),
            ("<a>{a}</a>", {"a": ""}, [(2, "a"), (5, "a")]),
        ]:
            self.assertEqual(ask_all_told(ask_filled(template, calls_for(values))), things, template)


class ManyTemplatesAndValues(unittest.TestCase):
    def check_case(self, template, scope, output):
        self.assertEqual(output, expected_output(template, scope), (template, scope))
        things = expected_told(template, scope)
        answers = ask([checking(output)] + [asking_event(number, output) for number in range(len(things) + 1)])
        self.assertEqual(answers[0], [0], (template, scope))
        self.assertEqual([split_told(answer) for answer in answers[1:-1]], things, (template, scope))
        self.assertEqual(answers[-1], [0], (template, scope))

    def test_the_output_is_markup_and_tells_what_the_template_tells_with_its_holes_filled(self):
        source = random.Random(8)
        outputs = {}
        while len(outputs) < 700:
            template = grown_template(source, PARTS)
            scope = random_scope(source, 3)
            calls = [compiling(template)] + calls_for(scope)
            # Templates of more than 256 bytes and values for which there's no room are left out.
            if len(calls) <= 100 and ask(calls) == [[0]] * len(calls):
                output = ask_filled(template, calls[1:])
                if len(output) <= 1024:
                    self.check_case(template, scope, output)
                    outputs[output] = template
        self.assertGreater(sum(len(told(output)) for output in outputs), 3000)
        for reference in ["&lt;", "&amp;", "&quot;", "&apos;"]:
            values_written_so = [output for output, template in outputs.items() if output.count(reference) > template.count(reference)]
            self.assertGreater(len(values_written_so), 20, reference)
