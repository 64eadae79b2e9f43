"""The kinds of bytes, those that say something in markup, and names."""

LONGEST_NAME = 32

# Stands for the byte behind the last one: no byte equals it.
NO_BYTE = 256

BANG = 33
DOUBLE_QUOTE = 34
AMPERSAND = 38
SINGLE_QUOTE = 39
STAR = 42
HYPHEN = 45
SLASH = 47
LESS = 60
EQUALS = 61
GREATER = 62
QUESTION = 63
UNDERSCORE = 95
OPENING_BRACE = 123
CLOSING_BRACE = 125


def is_letter(byte):
    return 65 <= byte <= 90 or 97 <= byte <= 122


def is_digit(byte):
    return 48 <= byte <= 57


def is_blank(byte):
    return byte in (32, 9, 10, 13)


def continues_markup_name(byte):
    return is_letter(byte) or is_digit(byte) or byte == HYPHEN


def continues_name(byte):
    return continues_markup_name(byte) or byte == UNDERSCORE


def is_name(row):
    if row == [] or len(row) > LONGEST_NAME:
        return False
    return is_letter(row[0]) and all([continues_name(byte) for byte in row])
