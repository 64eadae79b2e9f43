"""Calls as lists of whole numbers, written from texts, and answers read back."""

from escapedplaces.templates import answers

CLEAR = [1]
CLOSE = [4]
SIZE = [5]
GREATEST = 4294967295
MOST_TOLD = 4096


def row(text):
    numbers = list(text.encode("latin-1"))
    return [len(numbers)] + numbers


def compiling(template):
    return [0] + row(template)


def putting(name, value):
    return [2] + row(name) + row(value)


def opening(name):
    return [3] + row(name)


def rendering(from_place, count):
    return [6, from_place, count]


def asking_hole(number):
    return [7, number]


def checking(markup):
    return [8] + row(markup)


def asking_event(number, markup):
    return [9, number] + row(markup)


def split_answers(numbers):
    split = []
    place = 0
    while place < len(numbers):
        count = numbers[place]
        if count < 1 or place + 1 + count > len(numbers):
            raise AssertionError(f"count {count} at {place} of {numbers}")
        split.append(numbers[place + 1:place + 1 + count])
        place += 1 + count
    return split


def ask(calls):
    numbers = answers([number for call in calls for number in call])
    split = split_answers(numbers)
    if len(split) != len(calls):
        raise AssertionError(f"{len(calls)} calls, {len(split)} answers")
    return split


def ask_compile(template):
    return ask([compiling(template)])[0]


def ask_codes(calls):
    # For calls whose answers are one number each.
    codes = []
    for answer in ask(calls):
        if len(answer) != 1:
            raise AssertionError(f"an answer of one number is wanted, not {answer}")
        codes.append(answer[0])
    return codes


def told_text(numbers):
    return bytes(numbers).decode("latin-1")


def ask_output(calls):
    # The whole output behind the calls, with its size held against it.
    size_answer = ask(calls + [SIZE])[-1]
    if size_answer == [-1]:
        return None
    places = range(0, size_answer[1] + 1, MOST_TOLD)
    pieces = ask(calls + [rendering(place, GREATEST) for place in places])[len(calls):]
    output = ""
    for piece in pieces:
        if piece[0] != len(piece) - 1:
            raise AssertionError(f"{piece[0]} bytes are told to be told, not {len(piece) - 1}")
        output += told_text(piece[1:])
    if size_answer != [0, len(output)]:
        raise AssertionError(f"size answers {size_answer}, the output has {len(output)} bytes")
    return output


def ask_filled(template, values=()):
    return ask_output([compiling(template)] + list(values))


def ask_check(markup):
    return ask([checking(markup)])[0]


def ask_event(number, markup):
    # (what, text), or the answer as it is where nothing is told.
    answer = ask([asking_event(number, markup)])[0]
    return answer if len(answer) == 1 else split_told(answer)


def split_told(answer):
    if answer[1] != len(answer) - 2:
        raise AssertionError(f"{answer[1]} bytes are told to be told, not {len(answer) - 2}")
    return answer[0], told_text(answer[2:])


def ask_all_told(markup):
    # Every thing that the markup tells, up to the answer that it tells no more.
    told = []
    answer = ask_event(0, markup)
    while answer != [0]:
        told.append(answer)
        answer = ask_event(len(told), markup)
    return told
