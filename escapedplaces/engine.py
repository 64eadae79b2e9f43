"""The object that the calls are made on: a template and values."""

from escapedplaces.scanner import Fault, scan_template
from escapedplaces.scopes import Store

LONGEST_TEMPLATE = 256


class Engine:
    # Each method for a call gives back all the numbers of its answer.

    def __init__(self):
        self.template = None
        self.store = Store()

    def answer_compile(self, template):
        if len(template) > LONGEST_TEMPLATE:
            return [-2]
        try:
            scan_template(template)
        except Fault as fault:
            return [-1, fault.place]
        self.template = list(template)
        return [0]

    def answer_clear(self):
        self.store = Store()
        return [0]

    def answer_put(self, name, text):
        return [self.store.put_text(name, text)]

    def answer_open(self, name):
        return [self.store.open_item(name)]

    def answer_close(self):
        return [self.store.close_item()]
