"""Tables of values, chances and first rows: points [13] to [17] of the document."""

from choicerows.errors import GeneratorError
from choicerows.generators import kind_of, parts_in
from choicerows.limits import EXACT, VALUES
from choicerows.ways import added, count_joined, counted, in_order, one_chance, one_row, reduced, together, ways


def table(generator):
    """Return the triples (value, count, least row) of all values that a generator draws, ordered by the rows."""
    return counted(_weighed(generator, one_row))


def values_of(generator):
    """Return the values that a generator draws, in the order of the table."""
    return [triple[0] for triple in table(generator)]


def least_row(generator, value):
    """Return the least exact row that draws a value, or None if none does."""
    for drawn, _, row in table(generator):
        if drawn == value:
            return row
    return None


def count_rows(generator):
    """Return the number of exact rows of a generator."""
    return sum([triple[1] for triple in table(generator)])


def chances(generator):
    """Return the pairs (value, chance) of all values that a generator draws, in the order of the table."""
    return [(value, weight) for value, weight, _ in _weighed(generator, one_chance)]


def chance(generator, value):
    """Return the chance of a value as a pair in lowest terms; (0, 1) if it is not drawn."""
    for drawn, number in chances(generator):
        if drawn == value:
            return number
    return (0, 1)


def refused_chance(generator):
    """Return the chance of a refused draw as a pair in lowest terms."""
    total = (0, 1)
    for _, number in chances(generator):
        total = added(total, number)
    top, bottom = total
    return reduced(bottom - top, bottom)


def first_rows(generator, many):
    """Return the least exact rows of a generator, in order: as many as wanted, or all."""
    return [triple[2] for triple in _exact(generator)[:many]]


def draw_equally(generator, other):
    """Tell whether two generators have the same exact rows and draw the same values from them."""
    return _exact(generator) == _exact(other)


def make_equally(generator, other):
    """Tell whether two generators draw the same values, from whatever rows."""
    # Values may be tuples in tuples of any depth, and their texts stand for them in sets.
    return {repr(value) for value in values_of(generator)} == {repr(value) for value in values_of(other)}


def _weighed(generator, weigh):
    # A generator with a fault of its own has no table to count.
    kind_of(generator)
    return _weighed_at(generator, (), weigh)


def _weighed_at(generator, path, weigh):
    tables = [_weighed_at(part, (*path, at), weigh) for at, part in enumerate(parts_in(generator))]
    _refuse_many(count_joined(generator, tables), VALUES, path)
    found = together(ways(generator, tables, weigh))
    _refuse_many(len(found), VALUES, path)
    return found


def _exact(generator):
    # The whole generator is looked at for too many values before any part is for too many rows.
    _weighed(generator, one_row)
    return _exact_at(generator, ())


def _exact_at(generator, path):
    # A table in which equal values are not put together has a triple for each exact row.
    tables = [_exact_at(part, (*path, at)) for at, part in enumerate(parts_in(generator))]
    _refuse_many(count_joined(generator, tables), EXACT, path)
    found = in_order(ways(generator, tables, one_row))
    _refuse_many(len(found), EXACT, path)
    return found


def _refuse_many(many, limit, path):
    if many > limit:
        raise GeneratorError("too many", path)
