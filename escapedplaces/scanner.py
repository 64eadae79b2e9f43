"""Reading a template or markup from its beginning to its end, or to its fault."""

from escapedplaces.places import BEHIND_BLANK, BEHIND_VALUE, TEXT, end_quote, is_in_tag, is_in_value, place_behind_quote
from escapedplaces.references import reference_ends
from escapedplaces.signs import AMPERSAND, BANG, CLOSING_BRACE, DOUBLE_QUOTE, EQUALS, GREATER, LESS, NO_BYTE
from escapedplaces.signs import OPENING_BRACE, QUESTION, SINGLE_QUOTE, SLASH, STAR
from escapedplaces.signs import LONGEST_NAME, continues_markup_name, continues_name, is_blank, is_letter

MOST_SECTIONS = 16

# What a token is. Markup tells names and values under just these numbers.
OPENING_TAG = 2
ATTRIBUTE_NAME = 3
ATTRIBUTE_VALUE = 4
CLOSING_TAG = 5
PLAIN_BYTE = 6
REFERENCE = 7
DOUBLED_BRACE = 8
HOLE = 9
SECTION_BEGIN = 10
SECTION_END = 11


class Fault(ValueError):
    def __init__(self, place):
        self.place = place


class Token:
    def __init__(self, what, kind, begin, end):
        self.what = what
        # The kind of place that the token stands in.
        self.kind = kind
        self.begin = begin
        self.end = end


class Scanner:
    # Between two pieces the scanner stands in one of the five kinds of
    # places. From each of them a template can still reach each other one
    # without a section, so whatever has been read so far begins some
    # template, and a fault is where a piece meets a byte it can't take.
    # Markup is read likewise, a brace being a byte like others there.

    def __init__(self, row, is_template):
        self.row = row
        self.is_template = is_template
        self.place = 0
        self.kind = TEXT
        # For each section that is open, the kind of place it began in.
        self.sections = []
        self.tokens = []

    def peek(self):
        if self.place < len(self.row):
            return self.row[self.place]
        return NO_BYTE

    def take_if(self, allowed):
        if not allowed:
            raise Fault(self.place)
        self.place += 1

    def note(self, what, begin):
        self.tokens.append(Token(what, self.kind, begin, self.place))

    def scan(self):
        while self.place < len(self.row):
            self.take_piece()
        if self.kind != TEXT or self.sections != []:
            raise Fault(self.place)
        return self.tokens

    def take_piece(self):
        if self.is_template and self.peek() == OPENING_BRACE:
            self.take_braces()
        elif self.kind == TEXT:
            self.take_in_text()
        elif is_in_value(self.kind):
            self.take_in_value()
        else:
            self.take_in_tag()

    def take_in_text(self):
        byte = self.peek()
        if byte == LESS:
            self.take_tag_name()
        elif byte == AMPERSAND:
            self.take_reference()
        else:
            self.take_plain_byte()

    def take_in_value(self):
        byte = self.peek()
        if byte == end_quote(self.kind):
            self.place += 1
            self.kind = BEHIND_VALUE
        elif byte == AMPERSAND:
            self.take_reference()
        elif byte == LESS:
            raise Fault(self.place)
        else:
            self.take_plain_byte()

    def take_in_tag(self):
        if self.kind == BEHIND_BLANK and is_letter(self.peek()):
            self.take_attribute_name()
        else:
            self.take_blank_or_tag_end()

    def take_plain_byte(self):
        begin = self.place
        self.place += 1
        self.note(PLAIN_BYTE, begin)

    def take_tag_name(self):
        self.place += 1
        if self.peek() == SLASH:
            self.place += 1
            self.take_markup_name(CLOSING_TAG)
            self.take_if(self.peek() == GREATER)
        else:
            self.take_markup_name(OPENING_TAG)
            # Right behind the name no section may stand, so this is no
            # place to stop at.
            self.take_blank_or_tag_end()

    def take_blank_or_tag_end(self):
        byte = self.peek()
        self.take_if(is_blank(byte) or byte == GREATER)
        self.kind = TEXT if byte == GREATER else BEHIND_BLANK

    def take_attribute_name(self):
        self.take_markup_name(ATTRIBUTE_NAME)
        self.take_if(self.peek() == EQUALS)
        quote = self.peek()
        self.take_if(quote in (DOUBLE_QUOTE, SINGLE_QUOTE))
        self.kind = place_behind_quote(quote)
        # Noted where it begins, so that a value of no bytes is told too.
        self.note(ATTRIBUTE_VALUE, self.place)

    def take_markup_name(self, what):
        begin = self.place
        self.take_if(is_letter(self.peek()))
        while continues_markup_name(self.peek()):
            self.place += 1
        self.note(what, begin)

    def take_reference(self):
        begin = self.place
        self.place += 1
        ends = reference_ends()
        while ends != [""]:
            byte = self.peek()
            ends = [end[1:] for end in ends if ord(end[0]) == byte]
            self.take_if(ends != [])
        self.note(REFERENCE, begin)

    def take_braces(self):
        begin = self.place
        in_tag = is_in_tag(self.kind)
        may_begin = len(self.sections) < MOST_SECTIONS
        may_end = self.sections != [] and self.sections[-1] == self.kind
        # In a tag there are sections alone: where none may begin and none
        # may end, the brace is the fault already.
        self.take_if(may_begin or may_end or not in_tag)
        byte = self.peek()
        if byte == SLASH and may_end:
            self.take_section_end(begin)
        elif byte in (STAR, QUESTION, BANG) and may_begin:
            self.take_section_begin(begin)
        elif in_tag:
            raise Fault(self.place)
        elif byte == OPENING_BRACE:
            self.place += 1
            self.note(DOUBLED_BRACE, begin)
        else:
            self.take_name_and_brace()
            self.note(HOLE, begin)

    def take_section_begin(self, begin):
        self.place += 1
        self.take_name_and_brace()
        self.sections.append(self.kind)
        self.note(SECTION_BEGIN, begin)

    def take_section_end(self, begin):
        self.place += 1
        self.take_if(self.peek() == CLOSING_BRACE)
        self.sections.pop()
        self.note(SECTION_END, begin)

    def take_name_and_brace(self):
        begin = self.place
        self.take_if(is_letter(self.peek()))
        while self.place - begin < LONGEST_NAME and continues_name(self.peek()):
            self.place += 1
        self.take_if(self.peek() == CLOSING_BRACE)


def scan_template(template):
    return Scanner(template, True).scan()


def scan_markup(markup):
    return Scanner(markup, False).scan()
