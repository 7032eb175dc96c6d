"""Ledgers, by which anyone can check a table part by part: point [22] of the document."""

from choicerows.errors import GeneratorError
from choicerows.generators import kind_of, parts_in
from choicerows.tables import table
from choicerows.ways import count_joined, counted, one_row, together, ways, weighed


def parts_of(generator):
    """Return the list of the parts of a generator."""
    return list(parts_in(generator))


def ledger(generator):
    """Return the pair of the table of a generator and the tuple of the ledgers of its parts."""
    # The table comes first: for too many values, the whole generator tells the path.
    triples = tuple(table(generator))
    return (triples, tuple([ledger(part) for part in parts_of(generator)]))


def is_right_ledger(generator, some_ledger):
    """Tell whether a ledger is a right one of a generator; one with a fault has no right ledger."""
    try:
        kind_of(generator)
    except GeneratorError:
        return False
    return _is_right(generator, some_ledger)


def _is_right(generator, some_ledger):
    triples, ledgers = some_ledger
    parts = parts_of(generator)
    if len(ledgers) != len(parts):
        return False
    if not all([_is_right(part, told) for part, told in zip(parts, ledgers)]):
        return False
    return _is_made(generator, triples, [weighed(told[0]) for told in ledgers])


def _is_made(generator, triples, tables):
    # There may be far more ways than triples, and no two of those that join many values make equal ones.
    if count_joined(generator, tables) not in (0, len(triples)):
        return False
    return counted(together(ways(generator, tables, one_row))) == list(triples)
