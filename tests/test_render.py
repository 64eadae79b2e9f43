"""The calls size and render: the output in one piece and in pieces, and what it answers to (promise 4)."""

import unittest

from tests.calls import (
    CLEAR, CLOSE, GREATEST, SIZE, ask, ask_filled, ask_output, asking_event, asking_hole, checking, compiling, opening, putting,
    rendering, told_text,
)
from tests.output_model import calls_for, expected_output

WHOLE = rendering(0, GREATEST)
TEMPLATE = "<a b='{x}{{'>{*l}{y}-{/}{?x}<c d=\"{x}\">{/}"
SCOPE = {"x": "it's <\"&\">", "l": [{"y": "<1>"}, {"y": "&2"}, {}]}
SETUP = [compiling(TEMPLATE)] + calls_for(SCOPE)
OUTPUT = expected_output(TEMPLATE, SCOPE)


def long_setup():
    # An output of 4,097 bytes: 4,096 are told at once.
    template = "{a}" * 64 + "x"
    return [compiling(template), putting("a", "".join(chr(number) for number in range(128, 192)))]


LONG_OUTPUT = "".join(chr(number) for number in range(128, 192)) * 64 + "x"


class Refusals(unittest.TestCase):
    def test_no_template_yet(self):
        self.assertEqual(ask([SIZE, WHOLE, rendering(0, 0), putting("a", "b"), SIZE, WHOLE]), [[-1], [-1], [-1], [0], [-1], [-1]])

    def test_a_refused_template_is_none(self):
        self.assertEqual(ask([compiling("{"), SIZE, compiling("x" * 257), WHOLE]), [[-1, 1], [-1], [-2], [-1]])

    def test_an_item_open(self):
        calls = [compiling("x"), opening("a"), SIZE, WHOLE, opening("b"), CLOSE, SIZE, WHOLE, CLOSE, SIZE, WHOLE]
        self.assertEqual(ask(calls), [[0], [0], [-1], [-1], [0], [0], [-1], [-1], [0], [0, 1], [1, 120]])

    def test_no_template_and_an_item_open(self):
        self.assertEqual(ask([opening("a"), SIZE, WHOLE]), [[0], [-1], [-1]])

    def test_clear_closes_the_items(self):
        self.assertEqual(ask([compiling("x{a}"), opening("a"), CLEAR, SIZE, WHOLE]), [[0], [0], [0], [0, 1], [1, 120]])

    def test_an_item_that_was_refused_is_not_open(self):
        self.assertEqual(ask([compiling("x"), opening("9"), SIZE, WHOLE]), [[0], [-1], [0, 1], [1, 120]])


class Pieces(unittest.TestCase):
    def test_numbers_written_out(self):
        calls = [compiling("a{b}"), putting("b", "<"), SIZE, WHOLE, rendering(1, 3), rendering(4, 0), rendering(5, 5)]
        self.assertEqual(ask(calls)[2:], [[0, 5], [5, 97, 38, 108, 116, 59], [3, 38, 108, 116], [0], [0]])

    def test_the_empty_output(self):
        calls = [compiling(""), SIZE, WHOLE, rendering(1, 1), compiling("{a}{*b}x{/}"), SIZE, WHOLE]
        self.assertEqual(ask(calls), [[0], [0, 0], [0], [0], [0], [0, 0], [0]])

    def test_from_every_place_and_beyond(self):
        length = len(OUTPUT)
        self.assertEqual(ask_output(SETUP), OUTPUT)
        self.assertEqual(ask(SETUP + [SIZE])[-1], [0, length])
        for place in list(range(length + 3)) + [4096, 4097, GREATEST - 1, GREATEST]:
            rest = OUTPUT[place:]
            counts = [0, 1, 2, 4096, 4097, GREATEST]
            answers = ask(SETUP + [rendering(place, count) for count in counts])[len(SETUP):]
            for count, answer in zip(counts, answers):
                self.assertEqual(answer[0], min(count, len(rest)))
                self.assertEqual(told_text(answer[1:]), rest[:count])

    def test_pieces_of_every_length(self):
        for count in range(1, len(OUTPUT) + 2):
            calls = [rendering(place, count) for place in range(0, len(OUTPUT), count)]
            answers = ask(SETUP + calls)[len(SETUP):]
            self.assertEqual("".join(told_text(answer[1:]) for answer in answers), OUTPUT, count)

    def test_byte_by_byte_backwards(self):
        calls = [rendering(place, 1) for place in reversed(range(len(OUTPUT)))]
        answers = ask(SETUP + calls)[len(SETUP):]
        self.assertEqual(answers, [[1, ord(sign)] for sign in reversed(OUTPUT)])

    def test_at_most_4096_bytes_at_once(self):
        setup = long_setup()
        self.assertEqual(len(LONG_OUTPUT), 4097)
        places_and_counts = {
            (0, 4095): 4095, (0, 4096): 4096, (0, 4097): 4096, (0, GREATEST): 4096, (1, 4096): 4096, (1, GREATEST): 4096,
            (2, 4096): 4095, (4096, 4096): 1, (4097, 1): 0, (4096, 0): 0, (100, 4000): 3997, (GREATEST, GREATEST): 0,
        }
        calls = [rendering(place, count) for place, count in places_and_counts]
        answers = ask(setup + [SIZE] + calls)[len(setup):]
        self.assertEqual(answers[0], [0, 4097])
        for (place, count), told, answer in zip(places_and_counts, places_and_counts.values(), answers[1:]):
            self.assertEqual(answer[0], told, (place, count))
            self.assertEqual(told_text(answer[1:]), LONG_OUTPUT[place:place + told], (place, count))

    def test_a_long_output_in_pieces_of_many_lengths(self):
        setup = long_setup()
        for count in [11, 63, 64, 65, 100, 1000, 2048, 4095, 4096, 4097, 5000]:
            step = min(count, 4096)
            answers = ask(setup + [rendering(place, count) for place in range(0, 4097, step)])[len(setup):]
            self.assertEqual("".join(told_text(answer[1:]) for answer in answers), LONG_OUTPUT, count)


class AgainAndAgain(unittest.TestCase):
    def test_asked_again_it_is_the_same(self):
        answers = ask(SETUP + [WHOLE, SIZE, rendering(3, 9), WHOLE, SIZE, rendering(3, 9), WHOLE])[len(SETUP):]
        self.assertEqual(answers[0], answers[3])
        self.assertEqual(answers[0], answers[6])
        self.assertEqual(answers[1], answers[4])
        self.assertEqual(answers[2], answers[5])
        self.assertEqual(told_text(answers[0][1:]), OUTPUT)

    def test_other_calls_in_between_dont_matter(self):
        between = [
            compiling("{"), compiling("x" * 257), putting("9", "x"), putting("l", "x"), putting("x", "v" * 65), opening("x"), CLOSE,
            asking_hole(0), asking_hole(9), checking("<"), checking("a<b>"), asking_event(0, "t"), asking_event(0, "<"), SIZE,
        ]
        calls = [WHOLE]
        for call in between:
            calls += [call, WHOLE]
        told = ask(SETUP + calls)[len(SETUP)::2]
        self.assertEqual(told, [told[0]] * (len(between) + 1))
        self.assertEqual(told_text(told[0][1:]), OUTPUT)

    def test_a_template_compiled_anew(self):
        calls = [putting("a", "<"), compiling("1{a}"), WHOLE, compiling("<b c='{a}'>"), WHOLE, SIZE, compiling(""), WHOLE, SIZE]
        told = [told_text(answer[1:]) for answer in ask(calls) if len(answer) > 2]
        self.assertEqual(told[0], "1&lt;")
        self.assertEqual(told[1], "<b c='&lt;'>")
        self.assertEqual(ask(calls)[-4:], [[0, 12], [0], [0], [0, 0]])

    def test_a_refused_template_leaves_the_one_from_before(self):
        calls = [putting("a", "b"), compiling("1{a}"), compiling("2{a}{"), compiling("3" * 257), compiling("{?a}4"), WHOLE, SIZE]
        self.assertEqual(ask(calls)[-2:], [[2, 49, 98], [0, 2]])

    def test_values_put_anew(self):
        calls = [compiling("{a}{*l}{a}{/}"), putting("a", "1"), WHOLE, putting("a", "22"), WHOLE, opening("l"), CLOSE, WHOLE]
        calls += [opening("l"), putting("a", "3"), CLOSE, WHOLE, putting("a", ""), WHOLE, SIZE, CLEAR, WHOLE, SIZE]
        answers = ask(calls)
        outputs = [told_text(answer[1:]) for call, answer in zip(calls, answers) if call == WHOLE]
        self.assertEqual(outputs, ["1", "22", "2222", "22223", "3", ""])
        sizes = [answer for call, answer in zip(calls, answers) if call == SIZE]
        self.assertEqual(sizes, [[0, 1], [0, 0]])

    def test_the_values_may_come_ahead_of_the_template(self):
        self.assertEqual(ask_output(calls_for(SCOPE) + [compiling(TEMPLATE)]), OUTPUT)


class AllElse(unittest.TestCase):
    def test_all_else_comes_out_as_it_stands(self):
        for template in ["", "x", "<a \t\r\n b = ''>".replace(" = ", "="), "&lt;&gt;&amp;&quot;&apos;", "<a b='&apos;\"' c=\"&quot;'\" >",
                         "</a>}}>", "\x00\xff", "<A-1></A-1>", "x" * 256]:
            self.assertEqual(ask_filled(template), template)

    def test_two_braces_come_out_as_one(self):
        values = [putting("a", "{{b}{")]
        for template, output in [
            ("{{", "{"), ("{{{{", "{{"), ("{{a}", "{a}"), ("{{{a}", "{{{b}{"), ("{a}{{}", "{{b}{{}"), ("<a b='{{{{c}'>", "<a b='{{c}'>"),
            ("<a b=\"{{/}{a}\">", "<a b=\"{/}{{b}{\">"), ("{?a}{{{/}{{", "{{"), ("{{" * 128, "{" * 128), ("}}", "}}"),
        ]:
            self.assertEqual(ask_filled(template, values), output, template)

    def test_every_byte_of_text_and_of_values(self):
        for number in range(256):
            sign = chr(number)
            if sign not in "<&{":
                self.assertEqual(ask_filled(sign), sign)
            if sign not in "<&{'":
                self.assertEqual(ask_filled(f"<a b='{sign}'>"), f"<a b='{sign}'>")
