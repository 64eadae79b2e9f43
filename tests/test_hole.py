"""The call hole: where the template's holes stand, and their names."""

import random
import unittest

from tests.calls import CLEAR, GREATEST, ask, asking_hole, compiling, opening, putting, split_told
from tests.output_model import BRACES
from tests.template_model import DOUBLE, SINGLE, TEXT, grown_template, whole_pieces

NUMBERS = {TEXT: 1, DOUBLE: 2, SINGLE: 3}
HOLES = {
    "": [],
    "text {{a} <b c='{{d}'>": [],
    "{?a}{*b}{!c}{/}{/}{/}": [],
    "{a}": [(1, "a")],
    "<a b=\"{c}\">": [(2, "c")],
    "<a b='{c}'>": [(3, "c")],
    "{a}<b c=\"{d}\" e='{f}'>{g}": [(1, "a"), (2, "d"), (3, "f"), (1, "g")],
    "{" + "n" * 32 + "}{Z}{a-_9}": [(1, "n" * 32), (1, "Z"), (1, "a-_9")],
    "{a}{a}{a}": [(1, "a")] * 3,
    "{{{a}{{{{{b}": [(1, "a"), (1, "b")],
    "{?a}{b}{*c}{d}{/}{e}{/}{!f}{g}{/}": [(1, "b"), (1, "d"), (1, "e"), (1, "g")],
    "<a {?b}c='{d}' {*e}f=\"{g}\" {/}{/}>{h}": [(3, "d"), (2, "g"), (1, "h")],
    "<a b=''{*c} d='{e}'{/}>": [(3, "e")],
    "<a b=\"{?x}{y}\">t{z}<c d=\"{u}{/}{v}\">{w}": [(2, "y"), (1, "z"), (2, "u"), (2, "v"), (1, "w")],
    "<a b=\"'{c}'\" d='\"{e}\"'>\"{f}'": [(2, "c"), (3, "e"), (1, "f")],
    "{a}" * 85: [(1, "a")] * 85,
}
PARTS = [
    "<a ", "b='", 'c="', "'", '"', ">", " ", "{d}", "{ef}", "{g-h}", "{*i}", "{?j}", "{!k}", "{/}", "{{", "t", "&lt;", "{a}",
]


class Hole(unittest.TestCase):
    def test_all_holes_in_the_order_of_the_text(self):
        for template, holes in HOLES.items():
            with self.subTest(template=template):
                calls = [compiling(template)] + [asking_hole(number) for number in range(len(holes))]
                self.assertEqual([split_told(answer) for answer in ask(calls)[1:]], holes)

    def test_numbers_beyond_the_holes(self):
        for template, holes in HOLES.items():
            with self.subTest(template=template):
                calls = [compiling(template), asking_hole(len(holes)), asking_hole(len(holes) + 1), asking_hole(GREATEST)]
                self.assertEqual(ask(calls), [[0], [0], [0], [0]])

    def test_numbers_written_out(self):
        self.assertEqual(ask([compiling("<a b='{cd}'>"), asking_hole(0), asking_hole(1)]), [[0], [3, 2, 99, 100], [0]])

    def test_no_template(self):
        calls = [asking_hole(0), asking_hole(GREATEST), compiling("{"), compiling("x" * 257), asking_hole(0)]
        self.assertEqual(ask(calls), [[-1], [-1], [-1, 1], [-2], [-1]])

    def test_values_and_open_items_dont_matter(self):
        calls = [compiling("{*a}{b}{/}"), asking_hole(0), opening("a"), asking_hole(0), putting("b", "c"), asking_hole(0), CLEAR]
        self.assertEqual(ask(calls + [asking_hole(0)]), [[0], [1, 1, 98], [0], [1, 1, 98], [0], [1, 1, 98], [0], [1, 1, 98]])

    def test_a_template_compiled_anew_and_a_refused_one(self):
        calls = [compiling("{a}"), compiling("<b c='{d}'>"), asking_hole(0), compiling("{e}{"), asking_hole(0), compiling("x" * 257)]
        self.assertEqual(ask(calls + [asking_hole(0), asking_hole(1), compiling("f"), asking_hole(0)]), [
            [0], [0], [3, 1, 100], [-1, 4], [3, 1, 100], [-2], [3, 1, 100], [0], [0], [0],
        ])

    def test_grown_templates(self):
        source = random.Random(7)
        for case in range(300):
            template = grown_template(source, PARTS)
            if len(template) <= 256:
                found = [part for part in BRACES.finditer(template) if part["sign"] == ""]
                holes = [(NUMBERS[whole_pieces(template[:part.start()])[0]], part["name"]) for part in found]
                answers = ask([compiling(template)] + [asking_hole(number) for number in range(len(holes) + 1)])
                self.assertEqual([split_told(answer) for answer in answers[1:-1]], holes, template)
                self.assertEqual(answers[-1], [0])
