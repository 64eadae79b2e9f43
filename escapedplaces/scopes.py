"""The values: scopes with texts and lists, and the room that they take."""

from escapedplaces.places import DOUBLE_QUOTED, SINGLE_QUOTED, TEXT
from escapedplaces.references import written_in_place
from escapedplaces.signs import is_name

LONGEST_TEXT = 64
MOST_OPEN_ITEMS = 16
MOST_ENTRIES = 32
MOST_BYTES = 512


class Text:
    def __init__(self, row):
        self.length = len(row)
        # As it is written in each kind of place. An output has it up to
        # thousands of times, so this is done once.
        self.written = {}
        for kind in (TEXT, DOUBLE_QUOTED, SINGLE_QUOTED):
            self.written[kind] = written_in_place(row, kind)


class Scope:
    def __init__(self):
        self.texts = {}
        self.lists = {}


def written_value(scopes, key, kind):
    for scope in reversed(scopes):
        if key in scope.texts:
            return scope.texts[key].written[kind]
        if key in scope.lists:
            return []
    return []


def is_there(scopes, key):
    for scope in reversed(scopes):
        if key in scope.texts:
            return scope.texts[key].length > 0
        if key in scope.lists:
            return True
    return False


class Store:
    def __init__(self):
        # The scopes from the outermost to the one that is open.
        self.trail = [Scope()]
        # Nothing but a text in another's place gives room back, so two
        # sums tell the room without a walk through the scopes.
        self.entry_count = 0
        self.byte_count = 0

    def outermost(self):
        return self.trail[0]

    def has_open_item(self):
        return len(self.trail) > 1

    def take_room(self, more_entries, more_bytes):
        entry_count = self.entry_count + more_entries
        byte_count = self.byte_count + more_bytes
        if entry_count > MOST_ENTRIES or byte_count > MOST_BYTES:
            return False
        self.entry_count = entry_count
        self.byte_count = byte_count
        return True

    def take_room_for_text(self, key, row):
        texts = self.trail[-1].texts
        if key in texts:
            return self.take_room(0, len(row) - texts[key].length)
        return self.take_room(1, len(key) + len(row))

    def put_text(self, name, row):
        scope = self.trail[-1]
        key = tuple(name)
        if not is_name(name) or key in scope.lists:
            return -1
        if len(row) > LONGEST_TEXT or not self.take_room_for_text(key, row):
            return -2
        scope.texts[key] = Text(row)
        return 0

    def open_item(self, name):
        scope = self.trail[-1]
        key = tuple(name)
        # The outermost scope stands in the trail too, but is no item.
        if not is_name(name) or key in scope.texts or len(self.trail) > MOST_OPEN_ITEMS:
            return -1
        if not self.take_room(1, len(key)):
            return -2
        item = Scope()
        scope.lists.setdefault(key, []).append(item)
        self.trail.append(item)
        return 0

    def close_item(self):
        if not self.has_open_item():
            return -1
        self.trail.pop()
        return 0
