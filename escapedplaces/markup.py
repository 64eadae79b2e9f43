"""What markup tells."""

from escapedplaces.places import TEXT
from escapedplaces.references import referred_byte
from escapedplaces.scanner import PLAIN_BYTE, REFERENCE, scan_markup

# A text's number among the things that markup tells; the others' are those
# of their tokens.
TOLD_TEXT = 1


class Thing:
    def __init__(self, what, row):
        self.what = what
        self.row = row


def told_things(markup):
    things = []
    for token in scan_markup(markup):
        row = markup[token.begin:token.end]
        if token.what not in (PLAIN_BYTE, REFERENCE):
            things.append(Thing(token.what, row))
        else:
            # Between two texts stands a tag's name, and the bytes of a value
            # come right behind it: so the last thing is the one to go on.
            if token.kind == TEXT and (things == [] or things[-1].what != TOLD_TEXT):
                things.append(Thing(TOLD_TEXT, []))
            things[-1].row.append(referred_byte(row) if token.what == REFERENCE else row[0])
    return things
