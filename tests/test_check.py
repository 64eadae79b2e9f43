"""The call check: what is markup, and the exact place of the fault in what is not."""

import random
import unittest

from tests.calls import ask, ask_check, checking, compiling, opening
from tests.markup_model import expected_check, some_markup_begins_with

MARKUP = {
    "text": ["", "a", "> } \" ' ; = /", "\x00\x7f\x80\xff", " \t\r\n"],
    "references": ["&lt;&gt;&amp;&quot;&apos;", "<a b=\"&lt;&gt;&amp;&quot;&apos;\">", "<a b='&lt;&gt;&amp;&quot;&apos;'>"],
    "tags": ["<a>", "<A1-b->", "<a >", "<a \t\r\n>", "</a>", "</Z-9>", "</a></b><c>", "<" + "m" * 40 + ">"],
    "attributes": [
        '<a b="c">', "<a b='c'>", '<a b="">', "<a b=''>", '<a\nb="c"\t \rd=\'e\' >', '<a b="it\'s >">', "<a b='\"'>", "<a b='' b=''>",
    ],
    "braces": ["{", "}", "{{", "{a}", "{/}", "{?a}", "{*", "{9}", "{{{", '<a b="{">', "<a b='{/}{ {*a}'>", "{" + "n" * 33 + "}"],
    "17 braces": ["{?a}" * 17, "<a b='" + "{?a}" * 17 + "'>"],
}
# The text up to the fault, and what makes it one: nothing where it ends too early.
FAULTS = {
    "references": [
        ("&", "x"), ("&", ""), ("&", "&"), ("&", "L"), ("&", "{"), ("&", " "), ("&", "#60;"), ("&l", "g"), ("&l", ""),
        ("&lt", ""), ("&lt", " "), ("&g", "l"), ("&gt", "{;"), ("&a", "t"), ("&a", ""), ("&am", ";"), ("&amp", "&"),
        ("&ap", ";"), ("&apo", ""), ("&apos", "'"), ("&q", ""), ("&qu", "t"), ("&quo", "q"), ("&quot", "\""), ("&quot", ""),
        ('<a b="&', '"'), ("<a b='&a", "'"), ('<a b="&l', "{"), ("<a b='&", ""), ("text&amp;&", "<"),
    ],
    "tags": [
        ("<", ""), ("<", ">"), ("<", " a>"), ("<", "1>"), ("<", "-a>"), ("<", "{a}"), ("<", "<"), ("<", "!--"), ("<a", ""),
        ("<a", "_>"), ("<a", "{"), ("<a", "/>"), ("<a", "="), ("<a", "<"), ("<a", "&"), ("<a", "\xe4"), ("<a ", ""), ("<a ", "="),
        ("<a ", "/>"), ("<a ", "1"), ("<a ", "\"b\""), ("<a ", "<"), ("<a ", "&"), ("<a ", "{?b}"), ("<a ", "{"), ("<a ", "-"),
        ("</", ""), ("</", ">"), ("</", "/"), ("</", "9"), ("</", " a>"), ("</", "{"), ("</a", ""), ("</a", " >"), ("</a", "{"),
        ("x</a", "<"),
    ],
    "attributes": [
        ("<a b", ""), ("<a b", " ='c'>"), ("<a b", ">"), ("<a b", "_c"), ("<a b", "{"), ("<a b=", ""), ("<a b=", " 'c'>"),
        ("<a b=", "c"), ("<a b=", ">"), ("<a b=", "{c}"), ("<a b='", ""), ("<a b='c", ""), ("<a b='", "<"), ('<a b="c', "<"),
        ("<a b='c'", ""), ("<a b='c'", "d='e'"), ("<a b='c'", "/>"), ("<a b='c'", "'"), ("<a b='c'", "{"), ("<a b='c'", "&"),
        ("<a b='c' ", ""), ("<a b='c' ", "'"), ("<a b='c' ", "{"), ('<a b="c\'>', ""), ("<a b='c' d", ">"), ("<a b='{", "<"),
    ],
}
BEGINNINGS = [
    "", "&", "&l", "&g", "&a", "&am", "&ap", "&q", "&qu", "&quo", "&lt", "&amp", "&apo", "&apos", "&quot", "<", "<a", "</", "</a",
    "<a ", "<a \n", "<a b", "<a b=", "<a b='", '<a b="', "<a b='&", '<a b="&a', "<a b='&lt;", "<a b=''", '<a b=""', "<a b='' ",
    "<a b='' c", "<a b='' c=", "{", "{?a}", "<a>", "</a>",
]
SIGNS = "<a /=\"'>{&;"
PARTS = [
    "<a", "<b ", "</c>", ">", " ", "\n", "d=", "e='", 'f="', "'", '"', "g", "&lt;", "&quot;", "&a", "{{", "{h}", "{*i}", "{/}", "{",
    "}", "/", "=", ";", "\x00", "\xff", "-", "_", "9", "<l m='n'", "<o p=\"", "' q='", "&apos;",
]


class Check(unittest.TestCase):
    def test_markup_is_taken(self):
        for kind, texts in MARKUP.items():
            for text in texts:
                with self.subTest(kind=kind, text=text):
                    self.assertEqual(ask_check(text), [0])

    def test_the_place_is_the_first_byte_at_which_no_markup_goes_on(self):
        for kind, faults in FAULTS.items():
            for before, fault in faults:
                with self.subTest(kind=kind, before=before, fault=fault):
                    self.assertEqual(ask_check(before + fault), [-1, len(before)])

    def test_what_stands_behind_the_fault_doesnt_move_it(self):
        for kind, faults in FAULTS.items():
            for before, fault in faults:
                if fault != "":
                    with self.subTest(kind=kind, before=before, fault=fault):
                        self.assertEqual(ask_check(before + fault + "<&{>\"'x;"), [-1, len(before)])

    def test_1024_bytes_are_read_and_1025_are_not(self):
        self.assertEqual(ask_check("x" * 1024), [0])
        self.assertEqual(ask_check("x" * 1025), [-2])
        self.assertEqual(ask_check("x" * 2000), [-2])
        self.assertEqual(ask_check("x" * 1023 + "&"), [-1, 1024])
        self.assertEqual(ask_check("x" * 1022 + "<<"), [-1, 1023])
        self.assertEqual(ask_check("<a b='" + "c" * 1016 + "'>"), [0])
        self.assertEqual(ask_check("<a b='" + "c" * 1018), [-1, 1024])

    def test_the_length_is_looked_at_ahead_of_the_fault(self):
        self.assertEqual(ask_check("<" * 1025), [-2])
        self.assertEqual(ask_check("<" * 1024), [-1, 1])

    def test_check_may_be_called_at_any_time_and_changes_nothing(self):
        calls = [checking("a"), opening("a"), checking("<"), compiling("{b}"), checking("{"), [4], [6, 0, 9], checking("x" * 1025), [7, 0]]
        self.assertEqual(ask(calls), [[0], [0], [-1, 1], [0], [0], [0], [0], [-2], [1, 1, 98]])


class CheckAgainstTheModel(unittest.TestCase):
    def compare(self, texts):
        for first in range(0, len(texts), 400):
            some = texts[first:first + 400]
            for text, answer in zip(some, ask([checking(text) for text in some])):
                if answer != expected_check(text):
                    self.fail(f"check answers {answer} for {text!r}, not {expected_check(text)}")

    def test_every_byte_at_every_kind_of_place(self):
        for beginning in BEGINNINGS:
            self.compare([beginning] + [beginning + chr(number) for number in range(256)])

    def test_all_short_texts(self):
        texts = [""]
        longest = [""]
        for length in range(4):
            # A text that no markup begins with has its fault within: longer ones tell nothing new.
            begun = [text for text in longest if some_markup_begins_with(text)]
            longest = [text + sign for text in begun for sign in SIGNS]
            texts = texts + longest
        self.assertGreater(len(texts), 5000)
        self.compare(texts)

    def test_rows_of_parts(self):
        source = random.Random(5)
        rows = [[source.choice(PARTS) for part in range(source.randint(1, 12))] for case in range(4000)]
        self.compare(["".join(row) for row in rows])
