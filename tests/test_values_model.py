"""put, open, close, clear on long rows of calls, held against a model that counts the room anew each time."""

import random
import re
import unittest

from escapedplaces.engine import Engine
from escapedplaces.pieces import FILLED
from escapedplaces.places import TEXT
from tests.calls import CLEAR, CLOSE, ask_codes, opening, putting

NAMES = ["a", "b", "bc", "n" * 32, "m" * 31, "9", "", "n" * 33]


class ValuesModel:
    """Every text and every item stands in one dict, under its whole path."""

    def __init__(self):
        self.texts = {}
        self.items = []
        self.path = ()

    def has_room(self, texts, items):
        count = len(texts) + len(items)
        size = sum(len(path[-1]) + len(text) for path, text in texts.items()) + sum(len(path[-2]) for path in items)
        return count <= 32 and size <= 512

    def put(self, name, value):
        if not is_name(name) or any(item[:-1] == self.path + (name,) for item in self.items):
            return -1
        texts = {**self.texts, self.path + (name,): value}
        if len(value) > 64 or not self.has_room(texts, self.items):
            return -2
        self.texts = texts
        return 0

    def begin(self, name):
        if not is_name(name) or self.path + (name,) in self.texts or len(self.path) == 32:
            return -1
        items = self.items + [self.path + (name, len(self.items))]
        if not self.has_room(self.texts, items):
            return -2
        self.items = items
        self.path = items[-1]
        return 0

    def end(self):
        if self.path == ():
            return -1
        self.path = self.path[:-2]
        return 0

    def clear(self):
        self.__init__()
        return 0


def is_name(name):
    return re.fullmatch("[A-Za-z][A-Za-z0-9_-]{0,31}", name) is not None


def shown(scope):
    # No byte of the values here is written otherwise in text.
    texts = [(key, tuple(text.written[TEXT])) for key, text in scope.texts.items()]
    lists = [(key, tuple(shown(item) for item in items)) for key, items in scope.lists.items()]
    return tuple(texts), tuple(lists)


def shown_template(engine):
    if engine.pieces is None:
        return None
    return [(piece.what, piece.kind, tuple(piece.row), piece.partner) for piece in engine.pieces]


def shown_engine(engine):
    store = engine.store
    return shown_template(engine), shown(store.trail[0]), len(store.trail), shown(store.trail[-1])


def random_step(source, model):
    # (the call, what the model answers)
    kind = source.choice(["put"] * 5 + ["open"] * 4 + ["close"] * 3 + ["clear"] * (source.random() < 0.05))
    name = source.choice(NAMES) if source.random() < 0.3 else source.choice("abcdefgh") * source.randint(1, 6)
    if kind == "put":
        value = "v" * source.choice([0, 1, 5, 12, 20, 30, 63, 64, 65])
        return putting(name, value), model.put(name, value)
    if kind == "open":
        return opening(name), model.begin(name)
    if kind == "close":
        return CLOSE, model.end()
    return CLEAR, model.clear()


class ValuesAgainstTheModel(unittest.TestCase):
    def test_long_rows_of_calls(self):
        seen = {}
        for seed in range(200):
            source = random.Random(seed)
            model = ValuesModel()
            steps = [random_step(source, model) for step in range(120)]
            expected = [code for call, code in steps]
            self.assertEqual(ask_codes([call for call, code in steps]), expected, seed)
            for call, code in steps:
                seen[call[0], code] = True
        self.assertEqual(sorted(seen), [(1, 0), (2, -2), (2, -1), (2, 0), (3, -2), (3, -1), (3, 0), (4, -1), (4, 0)])

    def test_deep_rows_of_items(self):
        for seed in range(50):
            source = random.Random(seed)
            model = ValuesModel()
            calls, expected = [], []
            for step in range(60):
                if source.random() < 0.8:
                    calls.append(opening("a"))
                    expected.append(model.begin("a"))
                else:
                    calls.append(CLOSE)
                    expected.append(model.end())
            self.assertEqual(ask_codes(calls), expected, seed)


class WhatTheObjectKeeps(unittest.TestCase):
    def test_texts_items_and_template_are_kept_as_they_were_told(self):
        engine = Engine()
        self.assertEqual(shown_engine(engine), (None, ((), ()), 1, ((), ())))
        engine.answer_compile([123, 97, 125])
        engine.answer_put([97], [1, 2])
        engine.answer_put([97], [3])
        engine.answer_open([98])
        engine.answer_put([97], [4])
        engine.answer_close()
        engine.answer_open([98])
        item_one, item_two = ((((97,), (4,)),), ()), ((), ())
        outermost = ((((97,), (3,)),), (((98,), (item_one, item_two)),))
        template = [(FILLED, TEXT, (97,), None)]
        self.assertEqual(shown_engine(engine), (template, outermost, 2, item_two))
        engine.answer_clear()
        self.assertEqual(shown_engine(engine), (template, ((), ()), 1, ((), ())))

    def test_a_refusal_leaves_everything_as_it_was(self):
        engine = Engine()
        self.assertEqual(engine.answer_compile([120]), [0])
        self.assertEqual(engine.answer_put([97], [1]), [0])
        self.assertEqual(engine.answer_open([98]), [0])
        self.assertEqual(engine.answer_close(), [0])
        before = shown_engine(engine)
        self.assertEqual(engine.answer_compile([60]), [-1, 1])
        self.assertEqual(engine.answer_compile([120] * 257), [-2])
        self.assertEqual(engine.answer_put([], [2]), [-1])
        self.assertEqual(engine.answer_put([98], [2]), [-1])
        self.assertEqual(engine.answer_put([97], [2] * 65), [-2])
        self.assertEqual(engine.answer_open([97]), [-1])
        self.assertEqual(engine.answer_open([57]), [-1])
        self.assertEqual(engine.answer_close(), [-1])
        self.assertEqual(engine.answer_check([60]), [-1, 1])
        self.assertEqual(engine.answer_check([120] * 1025), [-2])
        self.assertEqual(engine.answer_event(0, [60]), [-1])
        self.assertEqual(engine.answer_event(0, [120] * 1025), [-2])
        self.assertEqual(shown_engine(engine), before)

    def test_a_refusal_for_want_of_room_leaves_everything_as_it_was(self):
        engine = Engine()
        for letter in range(97, 104):
            self.assertEqual(engine.answer_put([letter], [1] * 64), [0])
        self.assertEqual(engine.answer_put([104], [1] * 40), [0])
        before = shown_engine(engine)
        self.assertEqual(engine.answer_put([104], [2] * 60), [-2])
        self.assertEqual(engine.answer_put([105], [2] * 20), [-2])
        self.assertEqual(engine.answer_open([105] * 32), [-2])
        self.assertEqual(shown_engine(engine), before)
