"""The object that the calls are made on: a template and values."""

from escapedplaces.markup import told_things
from escapedplaces.output import cut_out, output_rows, size_of
from escapedplaces.pieces import holes_of, read_template
from escapedplaces.scanner import Fault, scan_markup
from escapedplaces.scopes import Store

LONGEST_TEMPLATE = 256
LONGEST_MARKUP = 1024
LONGEST_RENDER = 4096


class Engine:
    # Each method for a call gives back all the numbers of its answer.

    def __init__(self):
        # The pieces of the template, None as long as there is none.
        self.pieces = None
        self.store = Store()

    def answer_compile(self, template):
        if len(template) > LONGEST_TEMPLATE:
            return [-2]
        try:
            pieces = read_template(template)
        except Fault as fault:
            return [-1, fault.place]
        self.pieces = pieces
        return [0]

    def answer_clear(self):
        self.store = Store()
        return [0]

    def answer_put(self, name, row):
        return [self.store.put_text(name, row)]

    def answer_open(self, name):
        return [self.store.open_item(name)]

    def answer_close(self):
        return [self.store.close_item()]

    def has_output(self):
        return self.pieces is not None and not self.store.has_open_item()

    def whole_output(self):
        return output_rows(self.pieces, self.store.outermost())

    def answer_size(self):
        if not self.has_output():
            return [-1]
        return [0, size_of(self.whole_output())]

    def answer_render(self, from_place, count):
        if not self.has_output():
            return [-1]
        told = cut_out(self.whole_output(), from_place, min(count, LONGEST_RENDER))
        return [len(told)] + told

    def answer_hole(self, number):
        if self.pieces is None:
            return [-1]
        holes = holes_of(self.pieces)
        if number >= len(holes):
            return [0]
        hole = holes[number]
        return [hole.kind, len(hole.row)] + hole.row

    def answer_check(self, markup):
        if len(markup) > LONGEST_MARKUP:
            return [-2]
        try:
            scan_markup(markup)
        except Fault as fault:
            return [-1, fault.place]
        return [0]

    def answer_event(self, number, markup):
        if len(markup) > LONGEST_MARKUP:
            return [-2]
        try:
            things = told_things(markup)
        except Fault:
            return [-1]
        if number >= len(things):
            return [0]
        thing = things[number]
        return [thing.what, len(thing.row)] + thing.row
