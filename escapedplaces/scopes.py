"""The values: scopes with texts and lists, and the room that they take."""

from escapedplaces.signs import is_name

LONGEST_TEXT = 64
MOST_OPEN_ITEMS = 16
MOST_ENTRIES = 32
MOST_BYTES = 512


class Scope:
    def __init__(self):
        self.texts = {}
        self.lists = {}


class Store:
    def __init__(self):
        # The scopes from the outermost to the one that is open.
        self.trail = [Scope()]
        # Nothing but a text in another's place gives room back, so two
        # sums tell the room without a walk through the scopes.
        self.entry_count = 0
        self.byte_count = 0

    def take_room(self, more_entries, more_bytes):
        entry_count = self.entry_count + more_entries
        byte_count = self.byte_count + more_bytes
        if entry_count > MOST_ENTRIES or byte_count > MOST_BYTES:
            return False
        self.entry_count = entry_count
        self.byte_count = byte_count
        return True

    def take_room_for_text(self, key, text):
        texts = self.trail[-1].texts
        if key in texts:
            return self.take_room(0, len(text) - len(texts[key]))
        return self.take_room(1, len(key) + len(text))

    def put_text(self, name, text):
        scope = self.trail[-1]
        key = tuple(name)
        if not is_name(name) or key in scope.lists:
            return -1
        if len(text) > LONGEST_TEXT or not self.take_room_for_text(key, text):
            return -2
        scope.texts[key] = list(text)
        return 0

    def open_item(self, name):
        scope = self.trail[-1]
        key = tuple(name)
        # The outermost scope stands in the trail too, but is no item.
        if not is_name(name) or key in scope.texts or len(self.trail) > MOST_OPEN_ITEMS:
            return -1
        if not self.take_room(1, len(key)):
            return -2
        item = Scope()
        scope.lists.setdefault(key, []).append(item)
        self.trail.append(item)
        return 0

    def close_item(self):
        if len(self.trail) == 1:
            return -1
        self.trail.pop()
        return 0
