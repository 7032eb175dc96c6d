"""Kinds of values, and the conditions on them: points [3] and [4] of the document."""

from choicerows.limits import DIVISOR, LETTERS


def is_word(text):
    """Tell whether a string is a word."""
    # isalpha and islower would let letters beyond a to z pass.
    return 1 <= len(text) <= LETTERS and all(["a" <= letter <= "z" for letter in text])


def kinds_in_tuple(kind):
    """Return the kinds that a tuple kind has, and () for any other kind."""
    if isinstance(kind, tuple) and kind[0] == "tuple":
        return kind[1]
    return ()


def kind_in_list(kind):
    """Return the kind that a list kind has, and None for any other kind."""
    if isinstance(kind, tuple) and kind[0] == "list":
        return kind[1]
    return None


def is_of_kind(value, kind):
    """Tell whether a value is of a kind."""
    if kind == "int":
        # Python counts True and False as integers, the document does not.
        return isinstance(value, int) and not isinstance(value, bool)
    if kind == "word":
        return isinstance(value, str) and is_word(value)
    if not isinstance(value, tuple):
        return False
    listed = kind_in_list(kind)
    if listed is not None:
        return all([is_of_kind(item, listed) for item in value])
    kinds = kinds_in_tuple(kind)
    # zip stops at the shorter one, so that the lengths are compared first.
    return len(value) == len(kinds) and all([is_of_kind(item, part) for item, part in zip(value, kinds)])


def fits(condition, kind):
    """Tell whether a condition fits a kind."""
    name = condition[0]
    if name in ("not", "and", "or"):
        return all([fits(part, kind) for part in condition[1:]])
    if name == "atmost":
        return kind == "int"
    if name == "divides":
        return kind == "int" and 1 <= condition[1] <= DIVISOR
    if name == "is":
        return kind == "word" and is_word(condition[1])
    if name == "item":
        return _fits_item(condition[1], condition[2], kinds_in_tuple(kind))
    listed = kind_in_list(kind)
    return listed is not None and _fits_list(condition, listed)


def _fits_item(place, condition, kinds):
    # A negative place would be counted from the end by Python.
    return 0 <= place < len(kinds) and fits(condition, kinds[place])


def _fits_list(condition, listed):
    name = condition[0]
    if name in ("every", "some"):
        return fits(condition[1], listed)
    if name == "size":
        return fits(condition[1], "int")
    if name == "sum":
        return listed == "int" and fits(condition[1], "int")
    if name == "rising":
        return listed == "int"
    return name == "different"


def holds(condition, value):
    """Tell whether a condition holds of a value, which is of a kind that it fits."""
    name = condition[0]
    if name == "atmost":
        return value <= condition[1]
    if name == "divides":
        return value % condition[1] == 0
    if name == "is":
        return value == condition[1]
    if name == "item":
        return holds(condition[2], value[condition[1]])
    if name == "every":
        return all([holds(condition[1], item) for item in value])
    if name == "some":
        return any([holds(condition[1], item) for item in value])
    if name == "size":
        return holds(condition[1], len(value))
    if name == "sum":
        return holds(condition[1], sum(value))
    if name == "rising":
        return all([item <= after for item, after in zip(value, value[1:])])
    if name == "different":
        return _are_different(value)
    if name == "not":
        return not holds(condition[1], value)
    if name == "and":
        return holds(condition[1], value) and holds(condition[2], value)
    return holds(condition[1], value) or holds(condition[2], value)


def _are_different(values):
    # Values may be tuples in tuples of any depth, which no set takes here.
    return all([value not in values[place + 1:] for place, value in enumerate(values)])
