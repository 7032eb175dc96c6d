"""Generators, their kinds, and maps: points [5], [6], [7] and [18] of the document."""

from choicerows.conditions import fits, is_word, kind_in_list, kinds_in_tuple
from choicerows.errors import GeneratorError
from choicerows.limits import GREAT, ITEMS, LONG, WORDS


def parts_in(generator):
    """Return a tuple of the parts of a generator, in order."""
    name = generator[0]
    if name in ("tuple", "one"):
        return generator[1]
    if name in ("list", "kept", "turned"):
        return (generator[1],)
    if name == "repeat":
        return (generator[1], generator[2])
    return ()


def kind_of(generator):
    """Return the kind of the values that a generator makes; raise GeneratorError with its first fault."""
    return _kind_at(generator, ())


def _kind_at(generator, path):
    kinds = [_kind_at(part, (*path, at)) for at, part in enumerate(parts_in(generator))]
    what = _fault_itself(generator, kinds)
    if what is not None:
        raise GeneratorError(what, path)
    return _kind_made(generator, kinds)


def _fault_itself(generator, kinds):
    # None if there is no fault besides those of the parts, which have these kinds.
    name = generator[0]
    if name == "int" and not -GREAT <= generator[1] <= generator[2] <= GREAT:
        return "wrong bounds"
    if name == "list" and not 0 <= generator[2] <= generator[3] <= LONG:
        return "wrong bounds"
    if name == "pick" and not _are_right_words(generator[1]):
        return "wrong words"
    if name == "tuple" and len(kinds) > ITEMS:
        return "wrong number"
    if name == "one" and not 1 <= len(kinds) <= ITEMS:
        return "wrong number"
    if name == "one" and any([kind != kinds[0] for kind in kinds]):
        return "other kinds"
    if name == "kept" and not fits(generator[2], kinds[0]):
        return "does not fit"
    if name == "turned" and kind_behind(generator[2], kinds[0]) is None:
        return "does not fit"
    if name == "repeat" and kinds[0] != "int":
        return "does not fit"
    return None


def _are_right_words(words):
    are_different = len(set(words)) == len(words)
    return 1 <= len(words) <= WORDS and are_different and all([is_word(word) for word in words])


def _kind_made(generator, kinds):
    name = generator[0]
    if name == "int":
        return "int"
    if name == "pick":
        return "word"
    if name == "tuple":
        return ("tuple", tuple(kinds))
    if name == "list":
        return ("list", kinds[0])
    if name == "turned":
        return kind_behind(generator[2], kinds[0])
    if name == "repeat":
        return ("list", kinds[1])
    return kinds[0]


def kind_behind(some_map, kind):
    """Return the kind of what a map makes of values of a kind, or None if it does not fit."""
    name = some_map[0]
    if name in ("plus", "times"):
        return "int" if kind == "int" and -GREAT <= some_map[1] <= GREAT else None
    if name == "item":
        kinds = kinds_in_tuple(kind)
        # A negative place would be counted from the end by Python.
        return kinds[some_map[1]] if 0 <= some_map[1] < len(kinds) else None
    listed = kind_in_list(kind)
    if listed is None:
        return None
    if name == "length":
        return "int"
    if name == "sum":
        return "int" if listed == "int" else None
    if name == "sorted":
        return kind if listed in ("int", "word") else None
    return kind


def turn(some_map, value):
    """Return what a map makes of a value, which is of a kind that it fits."""
    name = some_map[0]
    if name == "plus":
        return value + some_map[1]
    if name == "times":
        return value * some_map[1]
    if name == "item":
        return value[some_map[1]]
    if name == "length":
        return len(value)
    if name == "sum":
        return sum(value)
    if name == "sorted":
        return tuple(sorted(value))
    return value[::-1]


def merged(generator):
    """Return a generator that draws equally, with steps put together where that is possible."""
    name = generator[0]
    parts = [merged(part) for part in parts_in(generator)]
    if name in ("tuple", "one"):
        return (name, tuple(parts))
    if name == "list":
        return ("list", parts[0], generator[2], generator[3])
    if name == "kept":
        return _merged_kept(parts[0], generator[2])
    if name == "turned":
        return _merged_turned(parts[0], generator[2])
    if name == "repeat":
        return ("repeat", parts[0], parts[1])
    return generator


def _merged_kept(part, condition):
    if part[0] == "kept":
        return ("kept", part[1], ("and", part[2], condition))
    return ("kept", part, condition)


def _merged_turned(part, some_map):
    if part[0] == "int" and some_map[0] == "plus":
        bounds = [bound + some_map[1] for bound in part[1:]]
        if all([-GREAT <= bound <= GREAT for bound in bounds]):
            return ("int", *bounds)
    return ("turned", part, some_map)


def is_plain(generator):
    """Tell whether a generator has nothing in it that may refuse."""
    if generator[0] in ("kept", "repeat"):
        return False
    return all([is_plain(part) for part in parts_in(generator)])
