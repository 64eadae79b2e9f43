"""The calls clear, put, open, close: each answer and each refusal, and the room at its edges."""

import unittest

from tests.calls import CLEAR, CLOSE, ask_codes, opening, putting

NAMES = ["a", "Z", "a9", "a-", "a_", "aB-c_9", "n" * 32]
NO_NAMES = ["", "9", "-a", "_a", " a", "a ", "a.", "a{", "{a}", "a\xe4", "\xe4", "\x00", "a\x00", "n" * 33, "n" * 200]


def numbered_puts(count, value=""):
    return [putting(f"k{number:02}", value) for number in range(count)]


def filled_to(total):
    # Texts under names of 4 bytes that take just that many bytes of room together.
    calls = []
    while total > 0:
        taken = min(total, 68)
        if 0 < total - taken < 4:
            taken -= 4
        calls.append(putting(f"f{len(calls):03}", "v" * (taken - 4)))
        total -= taken
    return calls


class Put(unittest.TestCase):
    def test_names_are_taken_and_what_is_no_name_is_not(self):
        for name in NAMES:
            self.assertEqual(ask_codes([putting(name, "v")]), [0], name)
        for name in NO_NAMES:
            self.assertEqual(ask_codes([putting(name, "v")]), [-1], name)

    def test_every_byte_as_a_name_and_within_one(self):
        letters = "ABCDEFGHIJKLMNOPQRSTUVWXYZabcdefghijklmnopqrstuvwxyz"
        for number in range(256):
            sign = chr(number)
            self.assertEqual(ask_codes([putting(sign, "")]), [0 if sign in letters else -1], number)
            within = letters + "0123456789-_"
            self.assertEqual(ask_codes([opening("a" + sign)]), [0 if sign in within else -1], number)

    def test_values_of_0_to_64_bytes_are_taken_and_of_65_not(self):
        self.assertEqual(ask_codes([putting("a", "")]), [0])
        self.assertEqual(ask_codes([putting("a", "\x00<&\"'{\xff")]), [0])
        self.assertEqual(ask_codes([putting("a", "v" * 64)]), [0])
        self.assertEqual(ask_codes([putting("a", "v" * 65)]), [-2])
        self.assertEqual(ask_codes([putting("a", "v" * 200)]), [-2])

    def test_a_name_that_has_a_list_in_the_open_scope_is_refused(self):
        self.assertEqual(ask_codes([opening("a"), CLOSE, putting("a", "v"), putting("A", "v")]), [0, 0, -1, 0])

    def test_a_list_of_another_scope_doesnt_matter(self):
        calls = [opening("a"), putting("a", "v"), opening("b"), putting("a", "v"), CLOSE, CLOSE, putting("b", "v")]
        self.assertEqual(ask_codes(calls), [0, 0, 0, 0, 0, 0, 0])

    def test_the_name_is_looked_at_ahead_of_the_value_and_the_room(self):
        self.assertEqual(ask_codes([putting("9", "v" * 65)]), [-1])
        self.assertEqual(ask_codes([opening("a"), CLOSE, putting("a", "v" * 65)]), [0, 0, -1])
        calls = [opening("a"), CLOSE] + numbered_puts(31)
        refused = [putting("a", ""), putting("", ""), putting("b", "")]
        self.assertEqual(ask_codes(calls + refused), [0] * 33 + [-1, -1, -2])


class OpenAndClose(unittest.TestCase):
    def test_names_are_taken_and_what_is_no_name_is_not(self):
        for name in NAMES:
            self.assertEqual(ask_codes([opening(name)]), [0], name)
        for name in NO_NAMES:
            self.assertEqual(ask_codes([opening(name), CLOSE]), [-1, -1], name)

    def test_a_name_that_has_a_text_in_the_open_scope_is_refused(self):
        self.assertEqual(ask_codes([putting("a", ""), opening("a"), CLOSE, opening("b")]), [0, -1, -1, 0])

    def test_a_text_of_another_scope_doesnt_matter(self):
        calls = [putting("a", "v"), opening("b"), opening("a"), putting("b", ""), CLOSE, opening("a"), CLOSE, CLOSE]
        self.assertEqual(ask_codes(calls + [opening("a")]), [0] * 8 + [-1])

    def test_each_item_is_a_scope_of_its_own(self):
        calls = [opening("a"), putting("b", "v"), CLOSE, opening("a"), opening("b"), CLOSE, CLOSE]
        self.assertEqual(ask_codes(calls), [0] * 7)

    def test_close_goes_back_to_the_scope_that_was_open_before(self):
        calls = [opening("a"), putting("b", ""), opening("c"), CLOSE, opening("b"), CLOSE, opening("b"), CLOSE, CLOSE]
        self.assertEqual(ask_codes(calls), [0, 0, 0, 0, -1, 0, 0, 0, -1])

    def test_close_with_no_item_open(self):
        self.assertEqual(ask_codes([CLOSE]), [-1])
        self.assertEqual(ask_codes([opening("a"), CLOSE, CLOSE, CLOSE]), [0, 0, -1, -1])

    def test_16_items_may_be_open_and_not_17(self):
        calls = [opening("a")] * 16 + [opening("a"), opening("b"), CLOSE, opening("b"), opening("c")]
        self.assertEqual(ask_codes(calls), [0] * 16 + [-1, -1, 0, 0, -1])

    def test_items_that_are_closed_are_not_open(self):
        self.assertEqual(ask_codes([opening("a"), CLOSE] * 17), [0] * 34)

    def test_16_open_items_dont_keep_a_text_from_being_put(self):
        self.assertEqual(ask_codes([opening("a")] * 16 + [putting("a", "v"), CLOSE]), [0] * 18)

    def test_the_name_and_the_open_items_are_looked_at_ahead_of_the_room(self):
        full = numbered_puts(16) + [opening("a")] * 16
        self.assertEqual(ask_codes(full + [opening("a"), opening("9"), CLOSE, opening("a")]), [0] * 32 + [-1, -1, 0, -2])
        full = numbered_puts(32)
        self.assertEqual(ask_codes(full + [opening("k00"), opening(""), opening("a")]), [0] * 32 + [-1, -1, -2])


class Clear(unittest.TestCase):
    def test_clear_on_a_new_object(self):
        self.assertEqual(ask_codes([CLEAR, CLEAR]), [0, 0])

    def test_no_item_is_open_afterwards(self):
        self.assertEqual(ask_codes([opening("a"), opening("b"), CLEAR, CLOSE]), [0, 0, 0, -1])

    def test_names_are_free_afterwards(self):
        calls = [putting("a", "v"), opening("b"), CLEAR, opening("a"), CLOSE, putting("b", "v")]
        self.assertEqual(ask_codes(calls), [0] * 6)

    def test_the_room_is_free_afterwards(self):
        full = numbered_puts(32)
        self.assertEqual(ask_codes(full + [CLEAR] + full + [putting("a", "")]), [0] * 65 + [-2])
        full = filled_to(512)
        self.assertEqual(ask_codes(full + [CLEAR] + full + [opening("a")]), [0] * (2 * len(full) + 1) + [-2])


class RoomForEntries(unittest.TestCase):
    def test_32_texts(self):
        self.assertEqual(ask_codes(numbered_puts(33)), [0] * 32 + [-2])

    def test_32_items(self):
        self.assertEqual(ask_codes([opening("a"), CLOSE] * 32 + [opening("a"), CLOSE]), [0] * 64 + [-2, -1])

    def test_32_texts_and_items_together(self):
        calls = [opening("a")] * 16 + [putting("b", ""), CLOSE] * 15 + numbered_puts(1)
        self.assertEqual(ask_codes(calls + [putting("c", ""), opening("d")]), [0] * 47 + [-2, -2])

    def test_a_text_in_anothers_place_is_no_further_text(self):
        calls = numbered_puts(32) + numbered_puts(32, "value") + [putting("new", "")]
        self.assertEqual(ask_codes(calls), [0] * 64 + [-2])

    def test_the_same_name_in_two_scopes_is_two_texts(self):
        calls = [opening("a"), putting("k00", ""), CLOSE] + numbered_puts(31)
        self.assertEqual(ask_codes(calls), [0] * 33 + [-2])


class RoomForBytes(unittest.TestCase):
    def check_left(self, calls, left):
        # Just that many bytes of room are left behind the calls.
        fits = putting("x", "v" * (left - 1))
        self.assertEqual(ask_codes(calls + [fits]), [0] * (len(calls) + 1))
        bursts = putting("x", "v" * left)
        self.assertEqual(ask_codes(calls + [bursts]), [0] * len(calls) + [-2])
        fits = opening("n" * left)
        self.assertEqual(ask_codes(calls + [fits]), [0] * (len(calls) + 1))
        bursts = opening("n" * (left + 1))
        self.assertEqual(ask_codes(calls + [bursts]), [0] * len(calls) + [-2])

    def test_512_bytes_of_names_and_texts(self):
        self.assertEqual(ask_codes(filled_to(512)), [0] * 8)
        self.assertEqual(ask_codes(filled_to(512) + [putting("a", "")]), [0] * 8 + [-2])
        self.assertEqual(ask_codes(filled_to(511) + [putting("a", "")]), [0] * 9)
        self.assertEqual(ask_codes(filled_to(511) + [putting("a", "v")]), [0] * 8 + [-2])
        self.check_left(filled_to(500), 12)

    def test_each_item_counts_its_lists_name(self):
        calls = [opening("n" * 32), CLOSE] * 15
        self.check_left(calls + [putting("a", "v")], 30)
        calls = calls + [opening("n" * 32), CLOSE]
        self.assertEqual(ask_codes(calls + [opening("a"), putting("a", "")]), [0] * 32 + [-2, -2])

    def test_names_texts_and_items_together(self):
        calls = [opening("ab"), putting("cde", "fghi"), opening("jk"), CLOSE, CLOSE] + filled_to(489)
        self.check_left(calls, 12)

    def test_a_longer_text_in_anothers_place(self):
        calls = filled_to(480) + [putting("a", "v" * 10)]
        self.check_left(calls, 21)
        self.assertEqual(ask_codes(calls + [putting("a", "v" * 31)]), [0] * (len(calls) + 1))
        self.assertEqual(ask_codes(calls + [putting("a", "v" * 32)]), [0] * len(calls) + [-2])
        self.check_left(calls + [putting("a", "v" * 20)], 11)

    def test_a_shorter_text_in_anothers_place_gives_room_back(self):
        calls = filled_to(480) + [putting("a", "v" * 31)]
        self.assertEqual(ask_codes(calls + [putting("b", "")]), [0] * len(calls) + [-2])
        self.check_left(calls + [putting("a", "v" * 11)], 20)
        self.check_left(calls + [putting("a", "")], 31)

    def test_an_equally_long_text_in_anothers_place_where_all_is_full(self):
        calls = filled_to(512)
        self.assertEqual(ask_codes(calls + [putting("f000", "w" * 64)] * 3), [0] * (len(calls) + 3))

    def test_room_stays_taken_when_the_item_is_closed(self):
        calls = [opening("ab"), putting("c", "v" * 64), CLOSE] + filled_to(433)
        self.check_left(calls, 12)


class RefusalsChangeNothing(unittest.TestCase):
    def test_a_refused_text_leaves_the_earlier_one_and_its_room(self):
        calls = filled_to(492) + [putting("a", "v" * 9)]
        refused = [putting("a", "v" * 65), putting("a", "v" * 20), opening("a"), putting("9", "v"), CLOSE]
        after = [putting("a", "v" * 19), putting("b", "")]
        self.assertEqual(ask_codes(calls + refused + after), [0] * len(calls) + [-2, -2, -1, -1, -1, 0, -2])

    def test_a_refused_name_stays_free(self):
        calls = [putting("a", "v" * 65), opening("a"), CLOSE]
        self.assertEqual(ask_codes(calls), [-2, 0, 0])
        full = filled_to(512)
        refused = [opening("a"), putting("b", "")]
        after = [putting("f000", ""), putting("a", ""), opening("b"), CLOSE, CLOSE]
        self.assertEqual(ask_codes(full + refused + after), [0] * len(full) + [-2, -2, 0, 0, 0, 0, -1])

    def test_a_refused_item_is_not_open_and_takes_no_room(self):
        calls = [opening("a")] * 16
        refused = [opening("n" * 32)] * 20
        after = [CLOSE] * 16 + [CLOSE] + numbered_puts(17)
        self.assertEqual(ask_codes(calls + refused + after), [0] * 16 + [-1] * 20 + [0] * 16 + [-1] + [0] * 16 + [-2])
