"""The output of a template's pieces with the values of a scope."""

from escapedplaces.pieces import COPIED, END, FILLED, IF_MISSING, LOOP
from escapedplaces.scopes import is_there, written_value


class Walk:
    # Goes through the pieces by their places in the row, back to a loop's
    # begin for each further item, so no call stands within another for a
    # section within another.

    def __init__(self, pieces, outermost):
        self.pieces = pieces
        self.place = 0
        # The scopes from the outermost to the innermost.
        self.scopes = [outermost]
        # For each loop that is gone through, the items still to come.
        self.coming = []
        # The output, one row behind another. The rows belong to pieces and
        # values: they are only read.
        self.rows = []

    def walk(self):
        while self.place < len(self.pieces):
            piece = self.pieces[self.place]
            self.place += 1
            if piece.what == COPIED:
                self.rows.append(piece.row)
            elif piece.what == FILLED:
                self.rows.append(written_value(self.scopes, piece.key, piece.kind))
            elif piece.what == LOOP:
                self.begin_loop(piece)
            elif piece.what == END:
                self.end_section(piece)
            elif is_there(self.scopes, piece.key) == (piece.what == IF_MISSING):
                self.place = piece.partner + 1
        return self.rows

    def begin_loop(self, piece):
        scopes = self.scopes[-1].lists.get(piece.key, [])
        if scopes == []:
            self.place = piece.partner + 1
        else:
            self.scopes.append(scopes[0])
            self.coming.append(scopes[1:])

    def end_section(self, piece):
        if self.pieces[piece.partner].what != LOOP:
            return
        self.scopes.pop()
        if self.coming[-1] == []:
            self.coming.pop()
        else:
            self.scopes.append(self.coming[-1].pop(0))
            self.place = piece.partner + 1


def output_rows(pieces, outermost):
    return Walk(pieces, outermost).walk()


def size_of(rows):
    return sum([len(row) for row in rows])


def cut_out(rows, from_place, most):
    told = []
    to_skip = from_place
    for row in rows:
        if to_skip >= len(row):
            to_skip -= len(row)
        elif len(told) < most:
            told.extend(row[to_skip:to_skip + most - len(told)])
            to_skip = 0
    return told
