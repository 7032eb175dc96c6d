"""The ways in which a generator makes values out of those of its parts: points [10], [13], [15] and [22].

A way is a triple (value, weight, row), and a table is a list of such triples. Weights are numbers (top, bottom)
in lowest terms: how many rows there are, or with which chance the value is drawn.
"""

from math import gcd

from choicerows.conditions import holds
from choicerows.generators import turn
from choicerows.limits import LONG
from choicerows.rows import rank

SURE = (1, 1)


def reduced(top, bottom):
    """Return a number in lowest terms."""
    shared = gcd(top, bottom)
    return (top // shared, bottom // shared)


def added(number, other):
    """Return the sum of two numbers."""
    return reduced(number[0] * other[1] + other[0] * number[1], number[1] * other[1])


def multiplied(number, other):
    """Return the product of two numbers."""
    return reduced(number[0] * other[0], number[1] * other[1])


def one_row(bound):
    """Return the weight of a choice with a bound, where rows are counted: each choice counts alike."""
    return SURE


def one_chance(bound):
    """Return the weight of a choice with a bound, where chances are told."""
    return (1, bound + 1)


def counted(triples):
    """Return a list of triples with the counts that their weights are."""
    return [(value, weight[0], row) for value, weight, row in triples]


def weighed(triples):
    """Return a list of triples with counts as a table, in which the counts are weights."""
    return [(value, (count, 1), row) for value, count, row in triples]


def in_order(triples):
    """Return a list of triples, ordered by their rows."""
    return sorted(triples, key=_rank)


def _rank(triple):
    return rank(triple[2])


def together(triples):
    """Return a table of triples in which those with equal values are put together."""
    found = {}
    for triple in triples:
        # A value may be tuples in tuples of any depth, and its text stands for it as a key.
        key = repr(triple[0])
        found[key] = _joined(found[key], triple) if key in found else triple
    return in_order(list(found.values()))


def _joined(triple, other):
    least = min([triple, other], key=_rank)
    return (triple[0], added(triple[1], other[1]), least[2])


def count_joined(generator, tables):
    """Return how many ways there are if a generator joins many values, and 0 if not: then they are few.

    The ways of one that joins may be far too many to be made, although the tables of its parts are short.
    """
    name = generator[0]
    if name == "tuple":
        return _product([len(rows) for rows in tables])
    if name == "list":
        many = len(tables[0])
        return sum([_product([many] * size) for size in range(generator[2], generator[3] + 1)])
    if name == "repeat":
        many = len(tables[1])
        return sum([_product([many] * first[0]) for first in tables[0] if 0 <= first[0] <= LONG])
    return 0


def _product(numbers):
    total = 1
    for number in numbers:
        total = total * number
    return total


def ways(generator, tables, weigh):
    """Return the ways of a generator from the tables of its parts; weigh tells what a choice with a bound weighs."""
    name = generator[0]
    if name == "int":
        return _ways_to_choose(list(range(generator[1], generator[2] + 1)), weigh)
    if name == "pick":
        return _ways_to_choose(generator[1], weigh)
    if name == "tuple":
        return _in_sequence(tables)
    if name == "list":
        return _ways_of_list(generator, tables[0], weigh)
    if name == "one":
        weight = weigh(len(tables) - 1)
        return [_behind(at, weight, triple) for at, rows in enumerate(tables) for triple in rows]
    if name == "kept":
        return [triple for triple in tables[0] if holds(generator[2], triple[0])]
    if name == "turned":
        return [(turn(generator[2], value), weight, row) for value, weight, row in tables[0]]
    return _ways_of_repeat(tables[0], tables[1])


def _ways_to_choose(values, weigh):
    weight = weigh(len(values) - 1)
    return [(value, weight, (at,)) for at, value in enumerate(values)]


def _behind(choice, weight, triple):
    return (triple[0], multiplied(weight, triple[1]), (choice, *triple[2]))


def _in_sequence(tables):
    # With no way in the end, there might be far too many ways for the tables ahead of an empty one.
    if not all([len(rows) > 0 for rows in tables]):
        return []
    found = [((), SURE, ())]
    for rows in tables:
        found = [_one_more(triple, last) for triple in found for last in rows]
    return found


def _one_more(triple, last):
    return ((*triple[0], last[0]), multiplied(triple[1], last[1]), triple[2] + last[2])


def _ways_of_list(generator, rows, weigh):
    least, most = generator[2:]
    weight = weigh(1)
    further = [_behind(1, weight, triple) for triple in rows]
    found = []
    for size in range(least, most + 1):
        sized = _in_sequence([rows] * least + [further] * (size - least))
        if size < most:
            sized = [(value, multiplied(whole, weight), (*row, 0)) for value, whole, row in sized]
        found.extend(sized)
    return found


def _ways_of_repeat(firsts, others):
    found = []
    for times, weight, row in firsts:
        if 0 <= times <= LONG:
            for values, whole, behind in _in_sequence([others] * times):
                found.append((values, multiplied(weight, whole), row + behind))
    return found
