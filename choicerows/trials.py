"""Tests, what rows say of them, and how they fail: points [19] to [21] of the document."""

from choicerows.conditions import fits, holds
from choicerows.drawing import draw, is_exact
from choicerows.errors import GeneratorError
from choicerows.generators import kind_of
from choicerows.tables import chances, table
from choicerows.ways import added


def is_test(generator, condition):
    """Tell whether a generator and a condition are a test."""
    try:
        kind = kind_of(generator)
    except GeneratorError:
        return False
    return fits(condition, kind)


def says(test, row):
    """Return what a row says of a test: `fails`, `passes` or `nothing`."""
    # The exact beginning of an exact row is all of it.
    return told_longer(test, row) if is_exact(test[0], row) else "nothing"


def told_longer(test, row):
    """Return what the exact beginning of a row says of a test, and `nothing` if it has none."""
    generator, condition = test
    outcome = draw(generator, row)
    if outcome[0] != "value":
        return "nothing"
    return "passes" if holds(condition, outcome[1]) else "fails"


def least_failing(test):
    """Return the least row that fails, or None if none does."""
    generator, condition = test
    for value, _, row in table(generator):
        if not holds(condition, value):
            return row
    return None


def failures(test):
    """Return the values for which the condition does not hold, in the order of the table."""
    generator, condition = test
    return [value for value, _, _ in table(generator) if not holds(condition, value)]


def failing_chance(test):
    """Return the chance of all failures together as a pair in lowest terms."""
    generator, condition = test
    total = (0, 1)
    for value, number in chances(generator):
        if not holds(condition, value):
            total = added(total, number)
    return total
