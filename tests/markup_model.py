"""What check and event must answer, from patterns for whole markup.

Whether some markup begins with a text is found by trying: one of a few tails
must make markup of it.
"""

import re

NAME = "[A-Za-z][A-Za-z0-9-]*"
BLANK = "[ \\t\\n\\r]"
REFERENCE = "&(?:lt|gt|amp|quot|apos);"
VALUE = f"\"(?:[^\"<&]|{REFERENCE})*\"|'(?:[^'<&]|{REFERENCE})*'"
ATTRIBUTES = f"(?:{BLANK}+{NAME}=(?:{VALUE}))*"
ATTRIBUTE = re.compile(f"{BLANK}+({NAME})=({VALUE})")
MARKUP = re.compile(f"(?:[^<&]|{REFERENCE}|<{NAME}{ATTRIBUTES}{BLANK}*>|</{NAME}>)*")
THING = re.compile(
    f"(?P<text>(?:[^<&]|{REFERENCE})+)|<(?P<opening>{NAME})(?P<attributes>{ATTRIBUTES}){BLANK}*>|</(?P<closing>{NAME})>"
)

MEANINGS = {"&lt;": "<", "&gt;": ">", "&amp;": "&", "&quot;": "\"", "&apos;": "'"}
REFERENCE_TAILS = sorted({reference[place:] for reference in MEANINGS for place in range(1, len(reference) + 1)})
TAILS = ["a>", ">", "a=''>", "=''>", "''>"] + [tail + close for tail in REFERENCE_TAILS for close in ("", "'>", "\">")]


def is_markup(text):
    return MARKUP.fullmatch(text) is not None


def some_markup_begins_with(text):
    return any(is_markup(text + tail) for tail in TAILS)


def expected_check(text):
    if len(text) > 1024:
        return [-2]
    if is_markup(text):
        return [0]
    # What some markup begins with has only such beginnings itself, so halving finds the longest.
    known, beyond = 0, len(text) + 1
    while beyond - known > 1:
        middle = (known + beyond) // 2
        if some_markup_begins_with(text[:middle]):
            known = middle
        else:
            beyond = middle
    return [-1, known]


def meant(text):
    return re.sub(REFERENCE, lambda found: MEANINGS[found.group()], text)


def told(markup):
    # All things that it tells, as (what, text).
    things = []
    for found in THING.finditer(markup):
        if found["text"] is not None:
            things.append((1, meant(found["text"])))
        elif found["closing"] is not None:
            things.append((5, found["closing"]))
        else:
            things.append((2, found["opening"]))
            for name, value in ATTRIBUTE.findall(found["attributes"]):
                things += [(3, name), (4, meant(value[1:-1]))]
    return things
