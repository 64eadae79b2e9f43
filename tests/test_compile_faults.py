"""Promise 3: compile takes nothing but templates, and tells the place of the fault exactly."""

import unittest

from tests.calls import ask, ask_compile, compiling, opening

FULL = "{?a}" * 16
# The text up to the fault, and what makes it one: nothing where it ends too early.
FAULTS = {
    "references": [
        ("&", "x"), ("&", ""), ("&", "{a}"), ("&", "&"), ("&", "L"), ("&l", "g"), ("&l", ""), ("&lt", ""), ("&lt", "{a};"),
        ("&g", "l"), ("&a", "t"), ("&a", ""), ("&am", ";"), ("&amp", " "), ("&ap", ";"), ("&apo", ""), ("&apos", "&"),
        ("&q", ""), ("&quo", "q"), ("&quot", "\""), ('<a b="&', '"'), ("<a b='&a", "'"), ('<a b="&l', "{?x}"),
    ],
    "tags": [
        ("<", ""), ("<", ">"), ("<", " a>"), ("<", "1>"), ("<", "-a>"), ("<", "{a}"), ("<", "{?a}"), ("<a", ""),
        ("<a", "_>"), ("<a", "{?b} {/}>"), ("<a", "/>"), ("<a", "="), ("<a", "\"b\""), ("<a ", ""), ("<a ", "="),
        ("<a ", "/>"), ("<a ", "1"), ("<a ", "\"b\""), ("<a ", "<"), ("<a ", "&"),
        ("</", ""), ("</", ">"), ("</", "/"), ("</", "9"), ("</", "{a}"), ("</a", ""), ("</a", " >"), ("</a", "{?b}"),
    ],
    "attributes": [
        ("<a b", ""), ("<a b", " ='c'>"), ("<a b", ">"), ("<a b", "_c"), ("<a b", "{?c}"), ("<a b=", ""),
        ("<a b=", " 'c'>"), ("<a b=", "c"), ("<a b=", ">"), ("<a b=", "{c}"), ("<a b='", ""), ("<a b='c", ""),
        ("<a b='", "<"), ('<a b="c', "<"), ("<a b='c'", ""), ("<a b='c'", "d='e'"), ("<a b='c'", "/>"),
        ("<a b='c'", "'"), ("<a b='c' ", ""), ("<a b='c' ", "'"), ('<a b="c\'>', ""),
    ],
    "braces in text": [
        ("{", ""), ("{", "}"), ("{", " a}"), ("{", "9}"), ("{", "_}"), ("{", "-}"), ("{", "<"), ("{", "&"), ("{{{", ""),
        ("{a", ""), ("{a", " }"), ("{a", "{"), ("{a", "."), ("{*", ""), ("{*", "}"), ("{?", "?"), ("{!", "9"),
        ("{?", "{a}"), ("{?a", ""), ("{!a", "*"), ("{?a}", ""), ("{*a}{/", ""), ("{*a}{/", "a}"), ("{?a}x", ""),
        ("{?a}{?b}{/}", ""),
    ],
    "braces in tags": [
        ("<a {", "{"), ("<a {", "b}"), ("<a {", "}"), ("<a {", ""), ("<a {", "/}"), ("<a {?", "}"), ("<a {?b", ">"),
        ("<a b=''{", "{"), ("<a b=''{", "c}"), ("<a b=''{", "/}"), ("<a b=''{", ""), ("<a b='{", "'"), ("<a {?b}", ""),
    ],
    "section ends with no section open": [
        ("{", "/}"), ("{?a}{/}{", "/}"), ('<a b="{', '/}">'), ("<a b='{", "/}'>"),
    ],
    "section ends in another kind of place": [
        ("{?x}<a {", "/}>"), ("{?x}<a b='{", "/}'>"), ("{?x}<a b=''{", "/}>"), ("<a {?x}>{", "/}"),
        ("<a {?x}b='c'{", "/}>"), ("<a {?x}b='{", "/}'>"), ("<a b='c'{?x} {", "/}>"), ("<a b='c'{?x}>{", "/}"),
        ("<a b='{?x}'{", "/}>"), ("<a b='{?x}' {", "/}>"), ("<a b='{?x}' c=\"{", "/}\">"), ("<a b=\"{?x}\" c='{", "/}'>"),
        ("<a b='{?x}'>{", "/}"), ("{?x}<a {?y}>{", "/}{/}"), ("<a b='{?x}'>t<c d='{/}{", "/}'>"),
        ("{?x}<a>{?y}{/}<b c='{", "/}"),
    ],
    "sections left open": [
        ("{?x}<a>", ""), ("<a {?x}>", ""), ("<a b='{?x}'>", ""), ("<a b=''{?x}>", ""),
    ],
    "names": [
        ("{" + "n" * 32, "n}"), ("{*" + "n" * 32, "n}{/}"), ("{?" + "n" * 32, "n}{/}"), ("{!" + "n" * 32, "n}{/}"),
        ("{" + "n" * 32, ""), ("{" + "n" * 32, "-}"), ("{" + "n" * 32, "_}"), ("{" + "n" * 32, "\xe4"),
    ],
    "the 17th section": [
        (FULL + "{", "?a}"), (FULL + "{", "*a}"), (FULL + "{", "!a}"), (FULL + "<b c='{", "?a}"),
        # In a tag the brace itself goes nowhere, but where the innermost section may end.
        (FULL + "<b ", "{?a}"), (FULL + "<b ", "{/}"), (FULL + "<b c=''", "{?a}"), (FULL + "<b c=''", "{/}"),
        ("<a " + FULL + "{", "?a}"), ("<a " + FULL + "b=''", "{/}"), ("<a b=''" + FULL + "{", "?a}"),
        ("<a b=''" + FULL + " ", "{/}"), (FULL, ""), (FULL + "{", ""), ("<a " + FULL + "{", ""),
    ],
}


class Faults(unittest.TestCase):
    def test_the_place_is_the_first_byte_at_which_no_template_goes_on(self):
        for kind, faults in FAULTS.items():
            for before, fault in faults:
                with self.subTest(kind=kind, before=before, fault=fault):
                    self.assertEqual(ask_compile(before + fault), [-1, len(before)])

    def test_what_stands_behind_the_fault_doesnt_move_it(self):
        for kind, faults in FAULTS.items():
            for before, fault in faults:
                if fault != "" and len(before) < 200:
                    with self.subTest(kind=kind, before=before, fault=fault):
                        self.assertEqual(ask_compile(before + fault + "<&{>\"'x;"), [-1, len(before)])


class Lengths(unittest.TestCase):
    def test_256_bytes_are_read_and_257_are_not(self):
        self.assertEqual(ask_compile("x" * 256), [0])
        self.assertEqual(ask_compile("x" * 257), [-2])
        self.assertEqual(ask_compile("x" * 2000), [-2])

    def test_a_fault_may_be_at_the_256th_byte_and_behind_it(self):
        self.assertEqual(ask_compile("x" * 254 + "&x"), [-1, 255])
        self.assertEqual(ask_compile("x" * 255 + "&"), [-1, 256])
        self.assertEqual(ask_compile("{?a}" + "x" * 252), [-1, 256])

    def test_the_length_is_looked_at_ahead_of_the_fault(self):
        self.assertEqual(ask_compile("<" * 257), [-2])
        self.assertEqual(ask_compile("<" * 256), [-1, 1])


class CompileAndTheObject(unittest.TestCase):
    def test_compile_may_be_called_at_any_time_and_leaves_the_values(self):
        calls = [opening("a"), compiling("{a}"), compiling("{"), compiling("x" * 257), compiling(""), [4], [4]]
        self.assertEqual(ask(calls), [[0], [0], [-1, 1], [-2], [0], [0], [-1]])
