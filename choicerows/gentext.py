"""Texts of generators, conditions and maps: points [8] and [9] of the document."""

from choicerows.errors import TextError
from choicerows.limits import DIGITS, LETTERS

# What stands in each of them, in order. The words of pick, and the generators of tuple and one, are as many as
# there are, and stand there one by one. The name alone does not tell a condition from a map.
FORMS = {
    ("generator", "int"): ("number", "number"),
    ("generator", "pick"): ("words",),
    ("generator", "tuple"): ("generators",),
    ("generator", "list"): ("generator", "number", "number"),
    ("generator", "one"): ("generators",),
    ("generator", "kept"): ("generator", "condition"),
    ("generator", "turned"): ("generator", "map"),
    ("generator", "repeat"): ("generator", "generator"),
    ("condition", "atmost"): ("number",),
    ("condition", "divides"): ("number",),
    ("condition", "is"): ("word",),
    ("condition", "item"): ("number", "condition"),
    ("condition", "every"): ("condition",),
    ("condition", "some"): ("condition",),
    ("condition", "size"): ("condition",),
    ("condition", "sum"): ("condition",),
    ("condition", "rising"): (),
    ("condition", "different"): (),
    ("condition", "not"): ("condition",),
    ("condition", "and"): ("condition", "condition"),
    ("condition", "or"): ("condition", "condition"),
    ("map", "plus"): ("number",),
    ("map", "times"): ("number",),
    ("map", "item"): ("number",),
    ("map", "length"): (),
    ("map", "sum"): (),
    ("map", "sorted"): (),
    ("map", "reversed"): (),
}
SINGLE = {"words": "word", "generators": "generator"}


def format_generator(generator):
    """Return the text of a generator."""
    return _format_item(generator, "generator")


def format_condition(condition):
    """Return the text of a condition."""
    return _format_item(condition, "condition")


def _format_item(item, wanted):
    if wanted == "number":
        return str(item)
    if wanted == "word":
        return item
    if wanted in SINGLE:
        return ", ".join([_format_item(one, SINGLE[wanted]) for one in item])
    name = item[0]
    form = FORMS[(wanted, name)]
    if not form:
        return name
    inside = ", ".join([_format_item(one, shape) for one, shape in zip(item[1:], form)])
    return f"{name}({inside})"


def read_generator(text):
    """Return the generator that has a text; raise TextError with the text's first fault."""
    return _read_whole(text, "generator")


def read_condition(text):
    """Return the condition that has a text; raise TextError with the text's first fault."""
    return _read_whole(text, "condition")


def _read_whole(text, wanted):
    item, place = _read_item(text, 0, wanted)
    place = _skip_spaces(text, place)
    if place < len(text):
        raise TextError(place, "not expected")
    return item


def _read_item(text, place, wanted):
    # Like the others below, it returns what it read, and the place behind it.
    place = _skip_spaces(text, place)
    if wanted == "number":
        return _read_number(text, place)
    if wanted == "word":
        return _read_word(text, place)
    if wanted in SINGLE:
        return _read_many(text, place, SINGLE[wanted])
    name = _letters_at(text, place)
    form = FORMS.get((wanted, name))
    if form is None:
        _refuse(text, place)
    place += len(name)
    if not form:
        return (name,), place
    inside = []
    for shape in form:
        place = _read_sign(text, place, "," if inside else "(")
        item, place = _read_item(text, place, shape)
        inside.append(item)
    return (name, *inside), _read_sign(text, place, ")")


def _read_many(text, place, wanted):
    if text[place:place + 1] == ")":
        return (), place
    item, place = _read_item(text, place, wanted)
    found = [item]
    place = _skip_spaces(text, place)
    while text[place:place + 1] == ",":
        item, place = _read_item(text, place + 1, wanted)
        found.append(item)
        place = _skip_spaces(text, place)
    return tuple(found), place


def _read_number(text, place):
    start = place
    if text[place:place + 1] == "-":
        place += 1
    digits = _digits_at(text, place)
    if digits == "" or (digits[0] == "0" and place > start):
        _refuse(text, place)
    if digits[0] == "0":
        # What may follow a 0 is no digit, and it is looked at by who reads on.
        return 0, place + 1
    if len(digits) > DIGITS:
        _refuse(text, place + DIGITS)
    place += len(digits)
    return int(text[start:place]), place


def _read_word(text, place):
    word = _letters_at(text, place)
    if not 1 <= len(word) <= LETTERS:
        _refuse(text, place)
    return word, place + len(word)


def _read_sign(text, place, sign):
    place = _skip_spaces(text, place)
    if text[place:place + 1] != sign:
        _refuse(text, place)
    return place + 1


def _refuse(text, place):
    # At its end a text has nothing that might not be expected.
    raise TextError(place, "not expected" if place < len(text) else "not finished")


def _skip_spaces(text, place):
    while text[place:place + 1] == " ":
        place += 1
    return place


def _letters_at(text, place):
    return _run_at(text, place, "a", "z")


def _digits_at(text, place):
    return _run_at(text, place, "0", "9")


def _run_at(text, place, first, last):
    end = place
    while end < len(text) and first <= text[end] <= last:
        end += 1
    return text[place:end]
