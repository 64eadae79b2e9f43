"""Promise 3, held against the model: every next byte at each place, short texts, and templates with slips."""

import random
import unittest

from tests.calls import ask, compiling
from tests.template_model import expected_answer, grown_template, template_that_begins_with

FULL = "{?a}" * 16
BEGINNINGS = [
    "", "&", "&l", "&g", "&a", "&am", "&ap", "&q", "&lt", "&amp", "&apo", "&quo", "<", "<a", "</", "</a", "<a ", "<a b",
    "<a b=", "<a b='", '<a b="', "<a b='&", '<a b="&a', "<a b=''", '<a b=""', "<a b='' ", "<a b='{", "<a {", "<a b=''{",
    "{", "{a", "{*", "{?a", "{/", "{" + "n" * 31, "{" + "n" * 32, "{?" + "n" * 32,
    "{?a}", "{?a}{", "{?a}{/", "{?a}<b ", "{?a}<b {", "{?a}<b c='{", "{?a}<b c=''{", "<a {?b}", "<a {?b}{", "<a {?b}{/",
    "<a {?b}>{", "<a {?b}c=''{", "<a b=''{?c}", "<a b=''{?c}{", "<a b=''{?c} {", "<a b='{?c}{", "<a b='{?c}' d=\"{",
    FULL, FULL + "{", FULL + "<b ", FULL + "<b c=''", FULL + "<b c='", FULL + "<b c='{", FULL + "{/}{",
    "<a " + FULL, "<a " + FULL + "{", "<a " + FULL + "b=''", "<a b=''" + FULL, "<a b=''" + FULL + "{", "<a b=''" + FULL + " ",
    "<a b='" + FULL + "{", "<a b='" + FULL + "'", "<a b='" + FULL + "' ", "<a b='" + FULL + "' c=\"{",
]
SIGNS = "<a /=\"'>{}?&;"
PARTS = [
    "<a", "<b ", "</c>", ">", " ", "\n", "d=", "e='", 'f="', "'", '"', "g", "&lt;", "&quot;", "&a", "{{", "{h}", "{*i}",
    "{?j}", "{!k}", "{/}", "{", "}", "/", "=", ";", "\x00", "\xff", "-", "_", "9", "<l m='n'", "<o p=\"", "' q='", "&apos;",
]


class CompileAgainstTheModel(unittest.TestCase):
    def compare(self, texts):
        # 400 calls are the most that a case has.
        for first in range(0, len(texts), 400):
            some = texts[first:first + 400]
            for text, answer in zip(some, ask([compiling(text) for text in some])):
                if answer != expected_answer(text):
                    self.fail(f"compile answers {answer} for {text!r}, not {expected_answer(text)}")

    def test_every_byte_at_every_kind_of_place(self):
        for beginning in BEGINNINGS:
            self.compare([beginning] + [beginning + chr(number) for number in range(256)])

    def test_all_short_texts(self):
        texts = [""]
        longest = [""]
        for length in range(4):
            # A text that no template begins with has its fault within: longer ones tell nothing new.
            begun = [text for text in longest if template_that_begins_with(text) is not None]
            longest = [text + sign for text in begun for sign in SIGNS]
            texts = texts + longest
        self.assertGreater(len(texts), 10000)
        self.compare(texts)

    def test_short_texts_behind_each_kind_of_place(self):
        for beginning in ["<a ", "<a b='", "<a b=\"{?c}", "<a b=''", "<a {?b}", "{?a}"]:
            self.compare([beginning + one + two + three for one in SIGNS for two in SIGNS for three in SIGNS])

    def test_rows_of_parts(self):
        source = random.Random(3)
        rows = [[source.choice(PARTS) for part in range(source.randint(1, 12))] for case in range(6000)]
        self.compare(["".join(row) for row in rows])

    def test_templates_and_templates_with_a_slip(self):
        source = random.Random(4)
        texts = []
        while len(texts) < 3000:
            template = grown_template(source, PARTS)
            if len(template) <= 256:
                texts.append(template)
                texts.append(with_a_slip(source, template))
        self.compare(texts)


def with_a_slip(source, template):
    place = source.randint(0, len(template))
    slip = source.choice(["", source.choice(SIGNS), chr(source.randint(0, 255))])
    return template[:place] + slip + template[place + source.randint(0, 1):]
