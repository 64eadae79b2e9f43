"""What a template's output must be, and what it must tell, straight from the document's words.

A scope is a dict of texts and lists under names; a list is a list of scopes.
"""

import re

from tests.calls import CLOSE, opening, putting
from tests.markup_model import told
from tests.template_model import DOUBLE, NAME, SINGLE, whole_pieces

BRACES = re.compile("\\{\\{|\\{/\\}|\\{(?P<sign>[*?!]?)(?P<name>" + NAME + ")\\}")
# Values are filled in beyond all bytes, where nothing of them can be taken for markup.
BEYOND = 0x1000


def calls_for(scope):
    # The calls that put a new object's values so.
    calls = []
    for name, value in scope.items():
        if isinstance(value, str):
            calls.append(putting(name, value))
        else:
            for item in value:
                calls += [opening(name)] + calls_for(item) + [CLOSE]
    return calls


def value_of(scopes, name):
    for scope in reversed(scopes):
        if name in scope:
            return scope[name]
    return ""


def end_of_section(template, at):
    # Where the end of the section begins whose body begins at that place.
    depth = 0
    for found in BRACES.finditer(template, at):
        if found["sign"]:
            depth += 1
        elif found.group() == "{/}":
            if depth == 0:
                return found.start()
            depth -= 1
    raise AssertionError(f"{template!r} is no template")


def put_section(template, sign, name, body, scopes, fill):
    if sign == "*":
        items = scopes[-1].get(name, [])
        if isinstance(items, str):
            return ""
        return "".join(put_part(template, *body, scopes + [item], fill) for item in items)
    is_there = value_of(scopes, name) != ""
    return put_part(template, *body, scopes, fill) if is_there == (sign == "?") else ""


def put_part(template, begin, end, scopes, fill):
    output = ""
    at = begin
    found = BRACES.search(template, at, end)
    while found:
        output += template[at:found.start()]
        at = found.end()
        if found.group() == "{{":
            output += "{"
        elif found["sign"]:
            body_end = end_of_section(template, at)
            output += put_section(template, found["sign"], found["name"], (at, body_end), scopes, fill)
            at = body_end + len("{/}")
        else:
            value = value_of(scopes, found["name"])
            output += fill(value if isinstance(value, str) else "", whole_pieces(template[:found.start()])[0])
        found = BRACES.search(template, at, end)
    return output + template[at:end]


def escaped(value, place):
    value = value.replace("&", "&amp;").replace("<", "&lt;")
    if place == DOUBLE:
        value = value.replace("\"", "&quot;")
    if place == SINGLE:
        value = value.replace("'", "&apos;")
    return value


def moved_beyond(value, place):
    return "".join(chr(ord(sign) + BEYOND) for sign in value)


def moved_back(text):
    return "".join(chr(ord(sign) % BEYOND) for sign in text)


def expected_output(template, scope):
    return put_part(template, 0, len(template), [scope], escaped)


def expected_told(template, scope):
    # What the template tells with its holes filled: here no value is escaped at all.
    filled = put_part(template, 0, len(template), [scope], moved_beyond)
    return [(what, moved_back(text)) for what, text in told(filled)]
