"""Rows of choices and their order: point [12] of the document."""


def rank(row):
    """Return what rows are ordered by: as Python orders such pairs, they are ordered."""
    return (len(row), row)


def is_less(row, other):
    """Tell whether a row is ahead of another one."""
    return rank(row) < rank(other)


def sorted_rows(rows):
    """Return a list of rows in order."""
    return sorted(rows, key=rank)


def is_prefix_free(rows):
    """Tell whether none of the rows of a list is the beginning of another one in it; equal ones are."""
    # As Python orders tuples, the rows that begin with a row follow it at once.
    ordered = sorted(rows)
    return all([after[:len(row)] != row for row, after in zip(ordered, ordered[1:])])
