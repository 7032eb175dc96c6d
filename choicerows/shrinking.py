"""Shrinking failing rows, and where it stays: points [23] to [25] of the document."""

from choicerows.conditions import holds
from choicerows.drawing import draw
from choicerows.tables import table
from choicerows.trials import told_longer


def candidates(row):
    """Return the rows that are tried in the place of a row, in order."""
    found = []
    for size in (4, 3, 2, 1):
        found.extend(_without_stretches(row, size))
    for at in range(len(row)):
        found.extend(_with_lesser_choices(row, at))
    for at in range(len(row) - 1):
        if row[at] > row[at + 1]:
            found.append((*row[:at], row[at + 1], row[at], *row[at + 2:]))
    return found


def _without_stretches(row, size):
    return [row[:at] + row[at + size:] for at in range(len(row) - size + 1)]


def _with_lesser_choices(row, at):
    choice = row[at]
    if choice <= 0:
        return []
    # A dict keeps the order, and equal ones only once.
    lesser = {0: True, choice // 2: True, choice - 1: True}
    return [(*row[:at], less, *row[at + 1:]) for less in lesser]


def left_by(generator, row):
    """Return the exact beginning of a row, or None if it has none."""
    outcome = draw(generator, row)
    return row[:outcome[2]] if outcome[0] == "value" else None


def step(test, row):
    """Return the row to which a step from a failing row goes, or None if it is settled."""
    # Every candidate is less than the row, and what it leaves is not greater than the candidate.
    for candidate in candidates(row):
        if told_longer(test, candidate) == "fails":
            return left_by(test[0], candidate)
    return None


def is_settled(test, row):
    """Tell whether no step goes from a failing row."""
    return step(test, row) is None


def course(test, row):
    """Return the rows to which steps go from a failing row, itself the first one and a settled one the last."""
    rows = []
    while row is not None:
        rows.append(row)
        row = step(test, row)
    return rows


def waste(test):
    """Return the settled rows among the failing ones of the table, except the least failing one."""
    generator, condition = test
    rows = [row for value, _, row in table(generator) if not holds(condition, value)]
    return [row for row in rows[1:] if is_settled(test, row)]
