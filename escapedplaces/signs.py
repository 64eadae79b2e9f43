"""The kinds of bytes, and the names that are made of them."""

LONGEST_NAME = 32

HYPHEN = 45
UNDERSCORE = 95


def is_letter(byte):
    return 65 <= byte <= 90 or 97 <= byte <= 122


def is_digit(byte):
    return 48 <= byte <= 57


def is_blank(byte):
    return byte in (32, 9, 10, 13)


def continues_markup_name(byte):
    return is_letter(byte) or is_digit(byte) or byte == HYPHEN


def continues_name(byte):
    return continues_markup_name(byte) or byte == UNDERSCORE


def is_name(row):
    if row == [] or len(row) > LONGEST_NAME:
        return False
    return is_letter(row[0]) and all([continues_name(byte) for byte in row])
