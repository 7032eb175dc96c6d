"""Drawing values from rows of choices: points [10] and [11] of the document."""

from choicerows.conditions import holds
from choicerows.generators import turn
from choicerows.limits import LONG


def draw(generator, row):
    """Return the outcome of a draw from a row."""
    return draw_from(generator, row, 0)


def is_exact(generator, row):
    """Tell whether a row draws a value and is used up by it."""
    outcome = draw(generator, row)
    return outcome[0] == "value" and outcome[2] == len(row)


def value_of(generator, row):
    """Return the value that an exact row draws."""
    return draw(generator, row)[1]


def choose(row, place, bound):
    """Return the outcome of one choice, like that of a draw whose value is the choice."""
    if place >= len(row):
        return ("short", len(row))
    if not 0 <= row[place] <= bound:
        return ("wrong", place)
    return ("value", row[place], place + 1)


def draw_from(generator, row, place):
    """Return the outcome of a draw that begins at a place of a row; the choices ahead of it count as used."""
    name = generator[0]
    if name == "int":
        return _draw_int(generator, row, place)
    if name == "pick":
        return _draw_pick(generator, row, place)
    if name == "tuple":
        return _draw_each(generator[1], row, place)
    if name == "list":
        return _draw_list(generator, row, place)
    if name == "one":
        return _draw_one(generator, row, place)
    if name == "kept":
        return _draw_kept(generator, row, place)
    if name == "turned":
        return _draw_turned(generator, row, place)
    return _draw_repeat(generator, row, place)


def _draw_int(generator, row, place):
    _, low, high = generator
    outcome = choose(row, place, high - low)
    if outcome[0] != "value":
        return outcome
    return ("value", low + outcome[1], outcome[2])


def _draw_pick(generator, row, place):
    words = generator[1]
    outcome = choose(row, place, len(words) - 1)
    if outcome[0] != "value":
        return outcome
    return ("value", words[outcome[1]], outcome[2])


def _draw_each(generators, row, place):
    values = []
    for part in generators:
        outcome = draw_from(part, row, place)
        if outcome[0] != "value":
            return outcome
        values.append(outcome[1])
        place = outcome[2]
    return ("value", tuple(values), place)


def _draw_list(generator, row, place):
    _, part, least, most = generator
    values = []
    while len(values) < most:
        if len(values) >= least:
            outcome = choose(row, place, 1)
            if outcome[0] != "value":
                return outcome
            place = outcome[2]
            if outcome[1] == 0:
                break
        outcome = draw_from(part, row, place)
        if outcome[0] != "value":
            return outcome
        values.append(outcome[1])
        place = outcome[2]
    return ("value", tuple(values), place)


def _draw_one(generator, row, place):
    parts = generator[1]
    outcome = choose(row, place, len(parts) - 1)
    if outcome[0] != "value":
        return outcome
    return draw_from(parts[outcome[1]], row, outcome[2])


def _draw_kept(generator, row, place):
    _, part, condition = generator
    outcome = draw_from(part, row, place)
    if outcome[0] != "value" or holds(condition, outcome[1]):
        return outcome
    return ("refused", outcome[2])


def _draw_turned(generator, row, place):
    _, part, some_map = generator
    outcome = draw_from(part, row, place)
    if outcome[0] != "value":
        return outcome
    return ("value", turn(some_map, outcome[1]), outcome[2])


def _draw_repeat(generator, row, place):
    _, first, other = generator
    outcome = draw_from(first, row, place)
    if outcome[0] != "value":
        return outcome
    times = outcome[1]
    if not 0 <= times <= LONG:
        return ("refused", outcome[2])
    return _draw_each([other] * times, row, outcome[2])
