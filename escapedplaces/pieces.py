"""A template as a row of pieces: what is copied, holes, sections' begins and ends."""

from escapedplaces.scanner import DOUBLED_BRACE, HOLE, SECTION_BEGIN, SECTION_END, scan_template
from escapedplaces.signs import BANG, STAR

# What a piece is.
COPIED = 1
FILLED = 2
LOOP = 3
IF_THERE = 4
IF_MISSING = 5
END = 6


class Piece:
    def __init__(self, what, kind, row):
        self.what = what
        # The kind of place that the piece stands in.
        self.kind = kind
        # The bytes that are copied, or those of the name, which scopes keep
        # as a tuple.
        self.row = row
        self.key = tuple(row)
        # Of a section's begin where its end is in the row, and of its end
        # where its begin is.
        self.partner = None


class PieceReader:
    def __init__(self, template):
        self.template = template
        self.pieces = []
        # Where in the row the sections that are open began.
        self.begun = []

    def read(self):
        copied_to = 0
        for token in scan_template(self.template):
            if token.what in (DOUBLED_BRACE, HOLE, SECTION_BEGIN, SECTION_END):
                # Of two braces the first one is copied.
                copied_end = token.begin + 1 if token.what == DOUBLED_BRACE else token.begin
                self.add_copied(copied_to, copied_end)
                self.add_token(token)
                copied_to = token.end
        self.add_copied(copied_to, len(self.template))
        return self.pieces

    def add_copied(self, begin, end):
        if begin < end:
            self.pieces.append(Piece(COPIED, None, self.template[begin:end]))

    def add_token(self, token):
        if token.what == HOLE:
            self.pieces.append(Piece(FILLED, token.kind, self.template[token.begin + 1:token.end - 1]))
        elif token.what == SECTION_BEGIN:
            self.add_begin(token)
        elif token.what == SECTION_END:
            self.add_end(token)

    def add_begin(self, token):
        sign = self.template[token.begin + 1]
        what = IF_THERE
        if sign == STAR:
            what = LOOP
        elif sign == BANG:
            what = IF_MISSING
        self.begun.append(len(self.pieces))
        self.pieces.append(Piece(what, token.kind, self.template[token.begin + 2:token.end - 1]))

    def add_end(self, token):
        place = self.begun.pop()
        begin = self.pieces[place]
        begin.partner = len(self.pieces)
        end = Piece(END, token.kind, [])
        end.partner = place
        self.pieces.append(end)


def read_template(template):
    return PieceReader(template).read()


def holes_of(pieces):
    return [piece for piece in pieces if piece.what == FILLED]
