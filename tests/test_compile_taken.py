"""Promise 3: compile takes every template."""

import unittest

from tests.calls import ask_compile

LONG_NAME = "n" * 32
TEMPLATES = {
    "text": [
        "", "a", "a text, with > and } and \" and ' and ; in it", "\x00\x7f\x80\xff", "\n\r\t ", "/", "a=b",
    ],
    "references": ["&lt;&gt;&amp;&quot;&apos;", "<a b=\"&lt;&gt;&amp;&quot;&apos;\">", "<a b='&lt;&gt;&amp;&quot;&apos;'>"],
    "opening tags": ["<a>", "<A1-b->", "<a >", "<a \t\r\n>", "<a><b><c>", "<Z9>x"],
    "closing tags": ["</a>", "</Z-9>", "</a></a>", "</a><a>"],
    "attributes": [
        '<a b="c">', "<a b='c'>", '<a b="">', "<a b=''>", '<a b="c" d=\'e\'>', '<a\nb="c"\t \rd="e" >',
        '<a b="it\'s > } ={{">', "<a b='say \"x\" > } ={{'>", '<a b="c" b="c">', '<a B-9="\x00\xff">',
    ],
    "doubled braces": ["{{", "{{{{", "{{}", "{{a}", '<a b="{{">', "<a b='{{'>", "{{{a}", "{{/}", "}"],
    "holes": ["{a}", "{a}{b}", "x{a_-9}y", "{Z}", '<a b="{c}">', "<a b='x{c}y{d}'>", "&lt;{a}&gt;"],
    "sections in text": ["{*a}{/}", "{?a}x{/}", "{!a}{b}{/}", "{?a}<b>{/}</b>", "{*a}{*b}{c}{/}{/}{?d}{/}"],
    "sections in values": [
        '<a b="{*c}{/}">', '<a b="x{?c}y{/}z">', "<a b='{!c}{d}{/}'>", "<a b='{?c}{!d}\"{/}{/}'>",
    ],
    "sections behind a blank": [
        "<a {*b}{/}>", '<a {?b}c="d" {/}>', '<a {!b} {/}e="f">', '<a {?b}{!c}{/}{/}d="e">', '<a b="c" {?d}{/}>',
        '<a {?b}c="{d}" {/}{?e}f=\'g\'\t{/}>',
    ],
    "sections behind a value": [
        '<a b="c"{*d}{/}>', '<a b="c"{?d} e="f"{/}>', "<a b='c'{!d} e=\"f\"{/} g='h'>", '<a b=""{?c}{?d} e=\'\'{/}{/}>',
    ],
    "bodies that leave their place": [
        '<a b="{?x}">t<c d="{/}">', "<a b='{?x}'>t<c d='{/}'>", "{?x}<a b='c'>{/}", "<a {?x}>t</a><b {/}>",
        '<a b="c"{?x}>t<d e=\'f\'{/}>', '<a b="{?x}" c=\'{?y}\' d=\'{/}\' e="{/}">',
        "{*x}<a {*y}b=\"{*z}{/}\"{*u}>v<w x='y'{/} {/}>{/}",
    ],
    "names": [
        "{" + LONG_NAME + "}", "{*" + LONG_NAME + "}{/}", "{?" + LONG_NAME + "}{/}", "{!" + LONG_NAME + "}{/}",
        "<" + "m" * 33 + " " + "n" * 33 + "=''></" + "o" * 33 + ">",
    ],
    "256 bytes": ["x" * 256, "{a}" * 85 + "x", "<a b='" + "c" * 248 + "'>"],
    "16 sections": [
        "{?a}" * 16 + "{/}" * 16, "{?a}" * 16 + "{b}{{" + "{/}" * 16, "<a b=\"" + "{!a}" * 16 + "{/}" * 16 + "\">",
        "<a " + "{*a}" * 16 + "{/}" * 16 + ">", "<a b=''" + "{*a}" * 16 + "{/}" * 16 + ">",
        "{?a}" * 16 + "{/}" + "{?a}{/}" + "{/}" * 15 + "{?a}{/}",
    ],
}


class TemplatesTaken(unittest.TestCase):
    def test_every_kind_of_template_is_taken(self):
        for kind, templates in TEMPLATES.items():
            for template in templates:
                with self.subTest(kind=kind, template=template):
                    self.assertEqual(ask_compile(template), [0])

    def test_every_byte_of_text_and_of_values_is_taken(self):
        for number in range(256):
            sign = chr(number)
            with self.subTest(number=number):
                self.assertEqual(ask_compile(sign) == [0], sign not in "<&{")
                self.assertEqual(ask_compile(f'<a b="{sign}">') == [0], sign not in '<&{"')
                self.assertEqual(ask_compile(f"<a b='{sign}'>") == [0], sign not in "<&{'")
