"""Generators, tests and machines to try things on, and all that they draw, found choice by choice."""

from fractions import Fraction

from choicerows.conditions import fits
from choicerows.drawing import draw
from choicerows.generators import kind_of
from choicerows.machines import run_machine

DIGIT = ("int", 0, 9)
BIT = ("int", 0, 1)
POSITIVE = ("not", ("atmost", 0))
NOTHING = ("kept", BIT, ("atmost", -1))
PAIR = ("tuple", (("int", -1, 1), ("pick", ("a", "b"))))
BITS = ("list", BIT, 0, 3)

# All of them are without faults and have at most a few hundred exact rows.
SMALL = [
    BIT, DIGIT, ("int", 7, 7), ("int", -3, -1), ("pick", ("a",)), ("pick", ("b", "a", "abcdefgh")),
    ("tuple", ()), ("tuple", (BIT,)), PAIR, ("tuple", (BIT, NOTHING)), ("tuple", (PAIR, BITS, ("tuple", ()))),
    ("list", BIT, 0, 0), ("list", BIT, 2, 2), BITS, ("list", BIT, 1, 3), ("list", PAIR, 0, 2), ("list", BITS, 0, 2),
    ("list", NOTHING, 0, 2), ("list", NOTHING, 1, 2), ("list", ("tuple", ()), 0, 6), ("list", ("tuple", ()), 6, 6),
    ("one", (BIT,)), ("one", (BIT, DIGIT, ("int", 5, 12))), ("one", (BITS, ("list", DIGIT, 1, 1))),
    ("one", (NOTHING, BIT)), ("one", (BIT, BIT, BIT, BIT)),
    ("kept", DIGIT, ("divides", 3)), ("kept", BITS, ("rising",)), NOTHING, ("kept", ("pick", ("a", "b")), ("is", "b")),
    ("kept", ("list", ("kept", DIGIT, ("divides", 3)), 0, 2), ("different",)),
    ("turned", DIGIT, ("plus", 5)), ("turned", DIGIT, ("times", 0)), ("turned", ("int", -3, 3), ("times", -2)),
    ("turned", PAIR, ("item", 0)), ("turned", PAIR, ("item", 1)), ("turned", BITS, ("length",)),
    ("turned", BITS, ("sum",)), ("turned", BITS, ("sorted",)), ("turned", BITS, ("reversed",)),
    ("turned", ("list", ("pick", ("b", "a")), 0, 2), ("sorted",)),
    ("repeat", ("int", 0, 2), DIGIT), ("repeat", ("int", -1, 2), BIT), ("repeat", ("int", 5, 8), BIT),
    ("repeat", ("int", 7, 9), BIT), ("repeat", NOTHING, BIT), ("repeat", ("int", 0, 2), NOTHING),
    ("repeat", ("turned", ("int", 0, 3), ("times", 2)), ("pick", ("x",))),
    ("repeat", ("one", (("int", 0, 1), ("int", 1, 2))), ("kept", ("int", 0, 4), ("divides", 2))),
    ("list", ("one", (("turned", BITS, ("sum",)), ("kept", DIGIT, ("divides", 4)))), 0, 1),
]


CONDITIONS = [
    ("atmost", 0), ("atmost", -9), ("atmost", 999), ("divides", 2), ("is", "a"), ("is", "z"), ("item", 0, ("atmost", 0)),
    ("item", 1, ("is", "b")), ("every", ("atmost", 0)), ("some", ("atmost", 0)), ("some", ("divides", 3)),
    ("size", ("atmost", 1)), ("size", ("not", ("atmost", 1))), ("sum", ("divides", 2)), ("rising",), ("different",),
    ("not", ("different",)), ("not", ("is", "a")), ("and", ("divides", 2), ("not", ("atmost", 2))),
    ("or", ("rising",), ("size", ("atmost", 2))),
]


def small_tests():
    """All tests of the small generators and the conditions above."""
    return [(generator, condition) for generator in SMALL for condition in CONDITIONS
            if fits(condition, kind_of(generator))]


def all_outcomes(drawn):
    """Return (row, outcome, chance) for every row that is used up by a value or by being refused."""
    found = []
    open_rows = [((), Fraction(1))]
    while open_rows:
        row, chance = open_rows.pop()
        outcome = drawn(row)
        if outcome == ("short", len(row)):
            bound = 0
            while drawn(row + (bound + 1,)) != ("wrong", len(row)):
                bound += 1
            open_rows.extend((row + (choice,), chance / (bound + 1)) for choice in range(bound + 1))
        else:
            found.append((row, outcome, chance))
    return sorted(found, key=lambda told: (len(told[0]), told[0]))


def all_draws(generator):
    """Return all outcomes of a generator."""
    return all_outcomes(lambda row: draw(generator, row))


def exact_draws(generator):
    """Return (row, value, chance) for every exact row, in order."""
    return [(row, outcome[1], chance) for row, outcome, chance in all_draws(generator) if outcome[0] == "value"]


def exact_runs(some_machine):
    """Return (row, value) for every exact row of a machine, in order."""
    told = all_outcomes(lambda row: run_machine(some_machine, row))
    return [(row, outcome[1]) for row, outcome, _ in told if outcome[0] == "value"]
