"""The calls as one list of whole numbers, and their answers as another."""

from escapedplaces.engine import Engine

COMPILE_CALL = 0
CLEAR_CALL = 1
PUT_CALL = 2
OPEN_CALL = 3
CLOSE_CALL = 4
SIZE_CALL = 5
RENDER_CALL = 6
HOLE_CALL = 7
CHECK_CALL = 8
EVENT_CALL = 9


class UnknownCall(ValueError):
    pass


class CallReader:
    def __init__(self, calls):
        self.calls = calls
        self.place = 0

    def is_done(self):
        return self.place >= len(self.calls)

    def read_number(self):
        number = self.calls[self.place]
        self.place += 1
        return number

    def read_row(self):
        length = self.read_number()
        row = self.calls[self.place:self.place + length]
        self.place += length
        return row


def answer_call(engine, reader):
    call = reader.read_number()
    if call in (COMPILE_CALL, CLEAR_CALL, PUT_CALL, OPEN_CALL, CLOSE_CALL):
        return answer_telling(engine, reader, call)
    return answer_asking(engine, reader, call)


def answer_telling(engine, reader, call):
    if call == COMPILE_CALL:
        return engine.answer_compile(reader.read_row())
    if call == CLEAR_CALL:
        return engine.answer_clear()
    if call == PUT_CALL:
        name = reader.read_row()
        row = reader.read_row()
        return engine.answer_put(name, row)
    if call == OPEN_CALL:
        return engine.answer_open(reader.read_row())
    return engine.answer_close()


def answer_asking(engine, reader, call):
    if call == SIZE_CALL:
        return engine.answer_size()
    if call == RENDER_CALL:
        from_place = reader.read_number()
        count = reader.read_number()
        return engine.answer_render(from_place, count)
    if call == HOLE_CALL:
        return engine.answer_hole(reader.read_number())
    if call == CHECK_CALL:
        return engine.answer_check(reader.read_row())
    if call == EVENT_CALL:
        number = reader.read_number()
        return engine.answer_event(number, reader.read_row())
    raise UnknownCall(call)


def answers(calls):
    engine = Engine()
    reader = CallReader(calls)
    told = []
    while not reader.is_done():
        answer = answer_call(engine, reader)
        told.append(len(answer))
        told.extend(answer)
    return told
