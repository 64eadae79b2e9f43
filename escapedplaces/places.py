"""The kinds of places in which a hole or a section may stand."""

from escapedplaces.signs import DOUBLE_QUOTE, SINGLE_QUOTE

# Holes stand in the first three alone, and these numbers are told of them.
TEXT = 1
DOUBLE_QUOTED = 2
SINGLE_QUOTED = 3
BEHIND_BLANK = 4
BEHIND_VALUE = 5


def is_in_value(kind):
    return kind in (DOUBLE_QUOTED, SINGLE_QUOTED)


def is_in_tag(kind):
    return kind in (BEHIND_BLANK, BEHIND_VALUE)


def end_quote(kind):
    return DOUBLE_QUOTE if kind == DOUBLE_QUOTED else SINGLE_QUOTE


def place_behind_quote(quote):
    return DOUBLE_QUOTED if quote == DOUBLE_QUOTE else SINGLE_QUOTED
