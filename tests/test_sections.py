"""Values: holes, conditions and loops, and scopes that hide one another (promise 6)."""

import unittest

from tests.calls import CLEAR, CLOSE, ask_filled, opening, putting
from tests.output_model import calls_for

# An outer scope with a text, an empty text and lists, and an item that hides some of them.
SCOPE = {
    "text": "T", "empty": "", "gone": "G", "turned": "O", "list": [{}],
    "row": [
        {"text": "t1", "gone": "", "turned": [{}, {}], "own": "o1"},
        {"empty": "e2", "list": "l2", "row": [{"own": "deep"}]},
        {},
    ],
}
VALUES = calls_for(SCOPE)
# Each kind of place, with what stands around what is put there.
PLACES = [("", ""), ("<a b=\"", "\">"), ("<a b='", "'>"), ("<a ", ">"), ("<a b=''", ">")]
BODIES = ["x", "x", "x", "c='x' ", " c='x'"]


class Holes(unittest.TestCase):
    def check_filled(self, template, output, values=VALUES):
        self.assertEqual(ask_filled(template, values), output, template)

    def test_a_text_a_list_no_bytes_and_a_name_that_no_scope_knows(self):
        for before, after in PLACES[:3]:
            for name, value in [("text", "T"), ("list", ""), ("row", ""), ("empty", ""), ("unknown", ""), ("own", ""), ("Text", "")]:
                self.check_filled(f"{before}[{{{name}}}]{after}", f"{before}[{value}]{after}")

    def test_a_value_put_anew(self):
        self.check_filled("{a}", "second", [putting("a", "first"), putting("a", "second")])
        self.check_filled("[{a}]", "[]", [putting("a", "first"), putting("a", "")])

    def test_a_refused_text_leaves_the_earlier_one(self):
        self.check_filled("{a}", "first", [putting("a", "first"), putting("a", "v" * 65), opening("a"), putting("9", "x")])

    def test_no_values_at_all_and_none_any_more(self):
        self.check_filled("[{a}{*a}x{/}{?a}y{/}{!a}z{/}]", "[z]", [])
        self.check_filled("[{text}{*row}x{/}{?row}y{/}{!row}z{/}]", "[z]", VALUES + [CLEAR])

    def test_inner_scopes_hide_outer_ones_name_by_name(self):
        self.check_filled("{*row}[{text}{/}", "[t1[T[T")
        self.check_filled("{*row}[{gone}{/}", "[[G[G")
        self.check_filled("{*row}[{turned}{/}", "[[O[O")
        self.check_filled("{*row}[{empty}{/}", "[[e2[")
        self.check_filled("{*row}[{list}{/}", "[[l2[")
        self.check_filled("{*row}[{own}{/}", "[o1[[")
        self.check_filled("{*row}[{*row}{own}{text}{empty}{/}{/}", "[[deepTe2[")

    def test_behind_a_loop_its_items_are_not_known_any_more(self):
        self.check_filled("{own}{*row}{own}{/}[{own}]{text}", "o1[]T")


class Conditions(unittest.TestCase):
    def check_condition(self, name, is_there):
        for sign in "?!":
            for (before, after), body in zip(PLACES, BODIES):
                template = f"{before}{{{sign}{name}}}{body}{{/}}{after}"
                output = before + (body if is_there == (sign == "?") else "") + after
                self.assertEqual(ask_filled(template, VALUES), output, template)

    def test_a_text_of_some_bytes(self):
        self.check_condition("text", True)

    def test_a_text_of_no_bytes(self):
        self.check_condition("empty", False)

    def test_a_list(self):
        self.check_condition("list", True)

    def test_a_name_that_no_scope_knows(self):
        self.check_condition("unknown", False)
        self.check_condition("own", False)

    def test_names_that_outer_scopes_alone_know_and_names_that_inner_ones_hide(self):
        expected = {
            "text": "yyy", "empty": "nyn", "gone": "nyy", "turned": "yyy", "list": "yyy", "row": "yyy", "own": "ynn", "unknown": "nnn",
        }
        for name, output in expected.items():
            self.assertEqual(ask_filled(f"{{*row}}{{?{name}}}y{{/}}{{!{name}}}n{{/}}{{/}}", VALUES), output, name)

    def test_a_text_of_no_bytes_hides_a_list(self):
        values = calls_for({"a": [{}], "b": [{"a": ""}, {"a": "x"}, {}]})
        self.assertEqual(ask_filled("{*b}{?a}y{/}{!a}n{/}{/}", values), "nyy")

    def test_the_body_once_and_in_the_same_scope(self):
        self.assertEqual(ask_filled("{?row}[{text}{own}]{*list}x{/}{/}", VALUES), "[T]x")
        self.assertEqual(ask_filled("{*row}{?row}{*row}{own}{/}{own};{/}{/}", VALUES), "o1;deep;;")

    def test_conditions_within_conditions(self):
        template = "{?text}a{!empty}b{?gone}c{/}d{/}e{?empty}f{!text}g{/}h{/}i{/}j{!text}k{?text}l{/}m{/}n"
        self.assertEqual(ask_filled(template, VALUES), "abcdeijn")


class Loops(unittest.TestCase):
    def test_every_kind_of_place(self):
        for (before, after), body in zip(PLACES, BODIES):
            for name, count in [("row", 3), ("list", 1), ("text", 0), ("empty", 0), ("unknown", 0), ("own", 0)]:
                template = f"{before}{{*{name}}}{body}{{/}}{after}"
                self.assertEqual(ask_filled(template, VALUES), before + body * count + after, template)

    def test_items_in_the_order_in_which_they_were_opened(self):
        values = []
        for number in range(10):
            values += [opening("a"), putting("n", str(number)), CLOSE]
        self.assertEqual(ask_filled("{*a}{n}{/}", values), "0123456789")

    def test_lists_opened_in_turns(self):
        values = []
        for number in range(5):
            for name in "ba":
                values += [opening(name), putting("n", f"{name}{number}"), CLOSE]
        self.assertEqual(ask_filled("{*a}{n}{/}|{*b}{n}{/}", values), "a0a1a2a3a4|b0b1b2b3b4")

    def test_a_list_of_an_outer_scope_alone_is_not_gone_through(self):
        self.assertEqual(ask_filled("{*row}[{*list}x{/}]{/}", VALUES), "[][][]")
        self.assertEqual(ask_filled("{*list}[{*row}x{/}{*list}y{/}]{/}", VALUES), "[]")

    def test_a_text_of_the_innermost_scope_hides_the_list(self):
        self.assertEqual(ask_filled("{*row}{*row}{own}{/}{*list}x{/}{*turned}y{/}.{/}", VALUES), "yy.deep..")

    def test_one_list_twice_and_loops_behind_one_another(self):
        self.assertEqual(ask_filled("{*row}a{/}{*row}b{/}{*list}c{/}", VALUES), "aaabbbc")

    def test_loops_within_loops(self):
        scope = {"a": [{"n": "1", "b": [{"m": "x"}, {"m": "y"}]}, {"n": "2"}, {"n": "3", "b": [{"m": "z", "n": "4"}]}]}
        template = "{*a}{n}({*b}{n}{m}{/}){/}"
        self.assertEqual(ask_filled(template, calls_for(scope)), "1(1x1y)2()3(4z)")

    def test_a_loop_within_conditions_within_a_loop(self):
        scope = {"a": [{"b": [{}, {}], "c": "1"}, {"b": [{}]}, {"c": "2"}]}
        template = "{*a}{?c}{*b}x{?c}{c}{/}{/}{/}{!c}{*b}y{/}{/};{/}"
        self.assertEqual(ask_filled(template, calls_for(scope)), "x1x1;y;;")

    def test_16_loops_within_one_another_and_16_scopes(self):
        scope = {}
        for depth in range(16, 0, -1):
            scope = {"a": [{"n": f"{depth}.", **scope}]}
        for depth in range(1, 17):
            template = "{*a}" * depth + "{n}" + "{/}" * depth
            self.assertEqual(ask_filled(template, calls_for(scope)), f"{depth}.")
        self.assertEqual(ask_filled("{*a}{n}" * 16 + "{/}" * 16, calls_for(scope)), "".join(f"{n}." for n in range(1, 17)))

    def test_bodies_that_leave_their_place(self):
        scope = {"a": [{"n": "1"}, {"n": "2"}]}
        self.assertEqual(ask_filled("<a b=\"{*a}{n}\">t{n}<c d=\"{/}\">", calls_for(scope)), '<a b="1">t1<c d="2">t2<c d="">')
        self.assertEqual(ask_filled("<a {*a}n='{n}'>{n}<b {/}>", calls_for(scope)), "<a n='1'>1<b n='2'>2<b >")
        self.assertEqual(ask_filled("<a b=''{?c}>t<d e=''{/}>", calls_for(scope)), "<a b=''>")

    def test_an_item_with_no_values_counts_too(self):
        self.assertEqual(ask_filled("{*a}x{/}", [opening("a"), CLOSE] * 32), "x" * 32)

    def test_what_was_refused_is_no_item(self):
        self.assertEqual(ask_filled("{*a}x{/}", [opening("a"), CLOSE] * 33), "x" * 32)
        values = [putting("b", ""), opening("b"), opening(""), opening("a"), CLOSE]
        self.assertEqual(ask_filled("{*a}x{/}{*b}y{/}", values), "x")
