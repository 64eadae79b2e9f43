"""Calls as lists of whole numbers, written from texts, and answers read back."""

from escapedplaces.templates import answers

CLEAR = [1]
CLOSE = [4]


def row(text):
    numbers = list(text.encode("latin-1"))
    return [len(numbers)] + numbers


def compiling(template):
    return [0] + row(template)


def putting(name, value):
    return [2] + row(name) + row(value)


def opening(name):
    return [3] + row(name)


def split_answers(numbers):
    split = []
    place = 0
    while place < len(numbers):
        count = numbers[place]
        if count < 1 or place + 1 + count > len(numbers):
            raise AssertionError(f"count {count} at {place} of {numbers}")
        split.append(numbers[place + 1:place + 1 + count])
        place += 1 + count
    return split


def ask(calls):
    numbers = answers([number for call in calls for number in call])
    split = split_answers(numbers)
    if len(split) != len(calls):
        raise AssertionError(f"{len(calls)} calls, {len(split)} answers")
    return split


def ask_compile(template):
    return ask([compiling(template)])[0]


def ask_codes(calls):
    # For calls whose answers are one number each.
    codes = []
    for answer in ask(calls):
        if len(answer) != 1:
            raise AssertionError(f"an answer of one number is wanted, not {answer}")
        codes.append(answer[0])
    return codes
