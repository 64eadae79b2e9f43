"""Reading a template from its beginning to its end, or to its fault."""

from escapedplaces.signs import LONGEST_NAME, continues_markup_name, continues_name, is_blank, is_letter

MOST_SECTIONS = 16

# The kinds of places in which a section may begin and end.
TEXT = 1
DOUBLE_QUOTED = 2
SINGLE_QUOTED = 3
BEHIND_BLANK = 4
BEHIND_VALUE = 5

# Stands for the byte behind the last one: no byte equals it.
NO_BYTE = 256

BANG = 33
DOUBLE_QUOTE = 34
AMPERSAND = 38
SINGLE_QUOTE = 39
STAR = 42
SLASH = 47
LESS = 60
EQUALS = 61
GREATER = 62
QUESTION = 63
OPENING_BRACE = 123
CLOSING_BRACE = 125

# What may stand behind an ampersand. None of them begins another one.
REFERENCE_ENDS = ("lt;", "gt;", "amp;", "quot;", "apos;")


class Fault(ValueError):
    def __init__(self, place):
        self.place = place


class Scanner:
    # Between two pieces the scanner stands in one of the five kinds of
    # places. From each of them a template can still reach each other one
    # without a section, so whatever has been read so far begins some
    # template, and a fault is where a piece meets a byte it can't take.

    def __init__(self, template):
        self.template = template
        self.place = 0
        self.kind = TEXT
        # For each section that is open, the kind of place it began in.
        self.sections = []

    def peek(self):
        if self.place < len(self.template):
            return self.template[self.place]
        return NO_BYTE

    def take_if(self, allowed):
        if not allowed:
            raise Fault(self.place)
        self.place += 1

    def scan(self):
        while self.place < len(self.template):
            self.take_piece()
        if self.kind != TEXT or self.sections != []:
            raise Fault(self.place)

    def take_piece(self):
        if self.peek() == OPENING_BRACE:
            self.take_braces()
        elif self.kind == TEXT:
            self.take_in_text()
        elif self.kind in (DOUBLE_QUOTED, SINGLE_QUOTED):
            self.take_in_value()
        else:
            self.take_in_tag()

    def take_in_text(self):
        byte = self.peek()
        if byte == LESS:
            self.take_tag_name()
        elif byte == AMPERSAND:
            self.take_reference()
        else:
            self.place += 1

    def take_in_value(self):
        byte = self.peek()
        quote = DOUBLE_QUOTE if self.kind == DOUBLE_QUOTED else SINGLE_QUOTE
        if byte == quote:
            self.place += 1
            self.kind = BEHIND_VALUE
        elif byte == AMPERSAND:
            self.take_reference()
        else:
            self.take_if(byte != LESS)

    def take_in_tag(self):
        if self.kind == BEHIND_BLANK and is_letter(self.peek()):
            self.take_attribute_name()
        else:
            self.take_blank_or_tag_end()

    def take_tag_name(self):
        self.place += 1
        if self.peek() == SLASH:
            self.place += 1
            self.take_markup_name()
            self.take_if(self.peek() == GREATER)
        else:
            self.take_markup_name()
            # Right behind the name no section may stand, so this is no
            # place to stop at.
            self.take_blank_or_tag_end()

    def take_blank_or_tag_end(self):
        byte = self.peek()
        self.take_if(is_blank(byte) or byte == GREATER)
        self.kind = TEXT if byte == GREATER else BEHIND_BLANK

    def take_attribute_name(self):
        self.take_markup_name()
        self.take_if(self.peek() == EQUALS)
        quote = self.peek()
        self.take_if(quote in (DOUBLE_QUOTE, SINGLE_QUOTE))
        self.kind = DOUBLE_QUOTED if quote == DOUBLE_QUOTE else SINGLE_QUOTED

    def take_markup_name(self):
        self.take_if(is_letter(self.peek()))
        while continues_markup_name(self.peek()):
            self.place += 1

    def take_reference(self):
        self.place += 1
        ends = list(REFERENCE_ENDS)
        while ends != [""]:
            byte = self.peek()
            ends = [end[1:] for end in ends if ord(end[0]) == byte]
            self.take_if(ends != [])

    def take_braces(self):
        in_tag = self.kind in (BEHIND_BLANK, BEHIND_VALUE)
        may_begin = len(self.sections) < MOST_SECTIONS
        may_end = self.sections != [] and self.sections[-1] == self.kind
        # In a tag there are sections alone: where none may begin and none
        # may end, the brace is the fault already.
        self.take_if(may_begin or may_end or not in_tag)
        byte = self.peek()
        if byte == SLASH and may_end:
            self.take_section_end()
        elif byte in (STAR, QUESTION, BANG) and may_begin:
            self.take_section_begin()
        elif byte == OPENING_BRACE and not in_tag:
            self.place += 1
        elif not in_tag:
            self.take_name_and_brace()
        else:
            raise Fault(self.place)

    def take_section_begin(self):
        self.place += 1
        self.take_name_and_brace()
        self.sections.append(self.kind)

    def take_section_end(self):
        self.place += 1
        self.take_if(self.peek() == CLOSING_BRACE)
        self.sections.pop()

    def take_name_and_brace(self):
        begin = self.place
        self.take_if(is_letter(self.peek()))
        while self.place - begin < LONGEST_NAME and continues_name(self.peek()):
            self.place += 1
        self.take_if(self.peek() == CLOSING_BRACE)


def scan_template(template):
    Scanner(template).scan()
