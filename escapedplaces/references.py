"""References, what they stand for, and values written with them."""

from escapedplaces.places import end_quote, is_in_value
from escapedplaces.signs import AMPERSAND, LESS

# What stands behind the ampersand, and what the whole stands for. None of
# the first ones begins another one.
REFERENCES = (("lt;", "<"), ("gt;", ">"), ("amp;", "&"), ("quot;", "\""), ("apos;", "'"))


def reference_ends():
    return [end for end, sign in REFERENCES]


def reference_row(end):
    return [AMPERSAND] + [ord(sign) for sign in end]


def reference_to(byte):
    return [reference_row(end) for end, sign in REFERENCES if ord(sign) == byte][0]


def referred_byte(reference):
    return [ord(sign) for end, sign in REFERENCES if reference_row(end) == reference][0]


def would_break_out(byte, kind):
    return byte in (LESS, AMPERSAND) or (is_in_value(kind) and byte == end_quote(kind))


def written_in_place(text, kind):
    row = []
    for byte in text:
        if would_break_out(byte, kind):
            row.extend(reference_to(byte))
        else:
            row.append(byte)
    return row
