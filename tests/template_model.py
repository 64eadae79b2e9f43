"""What compile must answer, straight from the document's definition.

It knows only whole pieces of templates, as patterns. Whether some template
begins with a text is found by trying: one of a few tails must make whole
pieces of it, and from there a written way leads to the template's end.
"""

import re

TEXT, DOUBLE, SINGLE, BLANK, BEHIND = "text", "double", "single", "blank", "behind"

MARKUP_NAME = "[A-Za-z][A-Za-z0-9-]*"
NAME = "[A-Za-z][A-Za-z0-9_-]{0,31}"
BLANKS = "[ \\t\\n\\r]"
REFERENCE = "&(?:lt|gt|amp|quot|apos);"
HOLE = "\\{" + NAME + "\\}"
BEGIN = "\\{[*?!]" + NAME + "\\}"
END = "\\{/\\}"


def pattern(text):
    return re.compile(text, re.DOTALL)


TAG_ENDS = [(pattern(BLANKS), BLANK), (pattern(">"), TEXT)]
PIECES = {
    TEXT: [
        (pattern("[^<&{]|\\{\\{|" + REFERENCE + "|" + HOLE), TEXT),
        (pattern("</" + MARKUP_NAME + ">"), TEXT),
        (pattern("<" + MARKUP_NAME + BLANKS), BLANK),
        (pattern("<" + MARKUP_NAME + ">"), TEXT),
    ],
    DOUBLE: [
        (pattern("[^<&{\"]|\\{\\{|" + REFERENCE + "|" + HOLE), DOUBLE),
        (pattern("\""), BEHIND),
    ],
    SINGLE: [
        (pattern("[^<&{']|\\{\\{|" + REFERENCE + "|" + HOLE), SINGLE),
        (pattern("'"), BEHIND),
    ],
    BLANK: TAG_ENDS + [
        (pattern(MARKUP_NAME + "=\""), DOUBLE),
        (pattern(MARKUP_NAME + "='"), SINGLE),
    ],
    BEHIND: TAG_ENDS,
}
SECTION_BEGIN = pattern(BEGIN)
SECTION_END = pattern(END)

TAILS = [
    "", "a", "a>", "/a>", ">", "a=''", "=''", "''", "'",
    "lt;", "t;", ";", "gt;", "amp;", "mp;", "p;", "quot;", "uot;", "ot;", "apos;", "pos;", "os;", "s;",
    "{", "a}", "}", "*a}", "/}",
]
WAYS_TO_TEXT = {TEXT: "", DOUBLE: "\">", SINGLE: "'>", BLANK: ">", BEHIND: ">"}
WAYS_FROM_TEXT = {TEXT: "", DOUBLE: "<a b=\"", SINGLE: "<a b='", BLANK: "<a ", BEHIND: "<a b=''"}


def take_piece(text, at, place, sections):
    # (where the piece ends, the place behind it, the sections open there), or None
    begin = SECTION_BEGIN.match(text, at)
    if begin:
        return (begin.end(), place, sections + (place,)) if len(sections) < 16 else None
    end = SECTION_END.match(text, at)
    if end:
        return (end.end(), place, sections[:-1]) if sections[-1:] == (place,) else None
    for piece, behind in PIECES[place]:
        found = piece.match(text, at)
        if found:
            return found.end(), behind, sections
    return None


def whole_pieces(text):
    # (the place, the sections open there) behind a row of whole pieces, or None
    at, place, sections = 0, TEXT, ()
    while at < len(text):
        taken = take_piece(text, at, place, sections)
        if taken is None:
            return None
        at, place, sections = taken
    return place, sections


def is_template(text):
    return whole_pieces(text) == (TEXT, ())


def way_to_end(place, sections):
    way = ""
    for kind in reversed(sections):
        way += WAYS_TO_TEXT[place] + WAYS_FROM_TEXT[kind] + "{/}"
        place = kind
    return way + WAYS_TO_TEXT[place]


def template_that_begins_with(text):
    for tail in TAILS:
        behind = whole_pieces(text + tail)
        if behind is not None:
            template = text + tail + way_to_end(*behind)
            if not is_template(template):
                raise AssertionError(f"{template!r} was meant to be a template")
            return template
    return None


def expected_answer(text):
    if len(text) > 256:
        return [-2]
    if is_template(text):
        return [0]
    return [-1, longest_beginning(text)]


def longest_beginning(text):
    # What some template begins with has only such beginnings itself, so halving finds the longest.
    known, beyond = 0, len(text) + 1
    while beyond - known > 1:
        middle = (known + beyond) // 2
        if template_that_begins_with(text[:middle]) is None:
            beyond = middle
        else:
            known = middle
    return known


def grown_template(source, parts):
    # Only parts after which some template goes on are kept, so it grows deep.
    text = ""
    for part in range(source.randint(1, 40)):
        longer = text + source.choice(parts)
        if template_that_begins_with(longer) is not None:
            text = longer
    return template_that_begins_with(text)
