import unittest

from choicerows.drawing import draw
from choicerows.errors import GeneratorError
from choicerows.generators import is_plain, kind_behind, kind_of, merged, turn
from samples import SMALL

INT = ("int", 0, 9)
WORD = ("pick", ("a", "b"))
PAIR = ("tuple", (INT, WORD))
INTS = ("list", INT, 0, 3)
BROKEN = ("int", 1, 0)
LESS = ("int", -1001, 0)
NO_WORDS = ("pick", ())
LETTERS = ("a", "b", "c", "d", "e", "f", "g", "h", "i", "j", "k")
KINDS = ["int", "word", ("list", "int"), ("list", "word"), ("list", ("list", "int")), ("tuple", ()),
         ("tuple", ("int",)), ("tuple", ("int", "word")), ("tuple", (("list", "word"), "int", "word")),
         ("list", ("tuple", ("int",)))]


class Checks(unittest.TestCase):
    def check_kind(self, generator, kind):
        before = repr(generator)
        self.assertEqual(kind_of(generator), kind)
        self.assertEqual(repr(generator), before)

    def check_fault(self, generator, what, path):
        before = repr(generator)
        with self.assertRaises(GeneratorError) as held:
            kind_of(generator)
        self.assertEqual((held.exception.what, held.exception.path), (what, path))
        self.assertIs(type(held.exception.path), tuple)
        self.assertEqual(repr(generator), before)


class Kinds(Checks):
    def test_int_and_pick(self):
        self.check_kind(INT, "int")
        self.check_kind(WORD, "word")

    def test_tuple(self):
        self.check_kind(("tuple", ()), ("tuple", ()))
        self.check_kind(("tuple", (INT,)), ("tuple", ("int",)))
        self.check_kind(("tuple", (INT, WORD, INT, INTS)), ("tuple", ("int", "word", "int", ("list", "int"))))

    def test_list(self):
        self.check_kind(INTS, ("list", "int"))
        self.check_kind(("list", WORD, 0, 0), ("list", "word"))
        self.check_kind(("list", INTS, 6, 6), ("list", ("list", "int")))

    def test_one(self):
        self.check_kind(("one", (INT,)), "int")
        self.check_kind(("one", (WORD, ("pick", ("z",)), WORD, WORD)), "word")
        self.check_kind(("one", (PAIR, PAIR)), ("tuple", ("int", "word")))
        self.check_kind(("one", (INTS, ("repeat", INT, ("int", 5, 5)))), ("list", "int"))

    def test_kept(self):
        self.check_kind(("kept", INT, ("atmost", 3)), "int")
        self.check_kind(("kept", WORD, ("is", "zzz")), "word")
        self.check_kind(("kept", PAIR, ("item", 1, ("is", "a"))), ("tuple", ("int", "word")))
        self.check_kind(("kept", INTS, ("every", ("divides", 100))), ("list", "int"))

    def test_turned(self):
        self.check_kind(("turned", INT, ("plus", 1)), "int")
        self.check_kind(("turned", PAIR, ("item", 1)), "word")
        self.check_kind(("turned", ("tuple", (INTS, WORD)), ("item", 0)), ("list", "int"))
        self.check_kind(("turned", ("list", WORD, 0, 1), ("length",)), "int")
        self.check_kind(("turned", ("list", WORD, 0, 1), ("sorted",)), ("list", "word"))
        self.check_kind(("turned", ("list", PAIR, 0, 1), ("reversed",)), ("list", ("tuple", ("int", "word"))))

    def test_repeat(self):
        self.check_kind(("repeat", INT, WORD), ("list", "word"))
        self.check_kind(("repeat", ("turned", INTS, ("sum",)), INTS), ("list", ("list", "int")))

    def test_nested(self):
        self.check_kind(("list", ("kept", ("turned", ("tuple", (("one", (INTS,)),)), ("item", 0)), ("rising",)), 1, 2),
                        ("list", ("list", "int")))


class Bounds(Checks):
    def test_int_at_its_bounds(self):
        for low, high in [(-1000, 1000), (-1000, -1000), (1000, 1000), (0, 0), (5, 6)]:
            self.check_kind(("int", low, high), "int")

    def test_int_beyond_its_bounds(self):
        for low, high in [(1, 0), (0, -1), (-1001, 0), (0, 1001), (-1001, 1001), (1001, 1001), (-1001, -1001),
                          (1000, -1000), (1001, 0)]:
            self.check_fault(("int", low, high), "wrong bounds", ())

    def test_list_at_its_bounds(self):
        for least, most in [(0, 0), (0, 6), (6, 6), (3, 4)]:
            self.check_kind(("list", INT, least, most), ("list", "int"))

    def test_list_beyond_its_bounds(self):
        for least, most in [(1, 0), (6, 5), (-1, 0), (-1, -1), (0, 7), (7, 7), (-1, 7), (7, 0)]:
            self.check_fault(("list", INT, least, most), "wrong bounds", ())


class Words(Checks):
    def test_one_to_ten_words(self):
        self.check_kind(("pick", LETTERS[:1]), "word")
        self.check_kind(("pick", LETTERS[:10]), "word")
        self.check_kind(("pick", ("abcdefgh", "a")), "word")

    def test_too_few_and_too_many(self):
        self.check_fault(("pick", ()), "wrong words", ())
        self.check_fault(("pick", LETTERS), "wrong words", ())

    def test_the_same_one_twice(self):
        self.check_fault(("pick", ("a", "a")), "wrong words", ())
        self.check_fault(("pick", ("a", "b", "c", "a")), "wrong words", ())

    def test_what_is_no_word(self):
        for word in ("", "abcdefghi", "A", "a1", "a b", " a", "1", "-", "a\n"):
            self.check_fault(("pick", (word,)), "wrong words", ())
            self.check_fault(("pick", ("a", word)), "wrong words", ())


class Numbers(Checks):
    def test_tuple(self):
        self.check_kind(("tuple", (INT,) * 4), ("tuple", ("int",) * 4))
        self.check_fault(("tuple", (INT,) * 5), "wrong number", ())
        self.check_fault(("tuple", (INT, WORD) * 4), "wrong number", ())

    def test_one(self):
        self.check_kind(("one", (INT,) * 4), "int")
        self.check_fault(("one", ()), "wrong number", ())
        self.check_fault(("one", (INT,) * 5), "wrong number", ())

    def test_number_is_told_ahead_of_other_kinds(self):
        self.check_fault(("one", (INT, INT, INT, INT, WORD)), "wrong number", ())

    def test_other_kinds(self):
        self.check_fault(("one", (INT, WORD)), "other kinds", ())
        self.check_fault(("one", (INT, INT, INT, WORD)), "other kinds", ())
        self.check_fault(("one", (WORD, INT, INT)), "other kinds", ())
        self.check_fault(("one", (INTS, ("list", WORD, 0, 3))), "other kinds", ())
        self.check_fault(("one", (("tuple", (INT,)), ("tuple", (INT, INT)))), "other kinds", ())
        self.check_fault(("one", (("tuple", ()), ("list", INT, 0, 0))), "other kinds", ())


class NotFitting(Checks):
    def test_kept_with_a_condition_for_another_kind(self):
        for generator, condition in [
            (INT, ("is", "a")), (WORD, ("atmost", 1)), (INT, ("rising",)), (INTS, ("atmost", 1)),
            (PAIR, ("item", 2, ("atmost", 1))), (PAIR, ("item", 0, ("is", "a"))), (INTS, ("item", 0, ("atmost", 1))),
            (INT, ("and", ("atmost", 1), ("is", "a"))), (INT, ("not", ("size", ("atmost", 1)))),
        ]:
            self.check_fault(("kept", generator, condition), "does not fit", ())

    def test_kept_with_a_wrong_integer_or_string(self):
        for generator, condition in [
            (INT, ("divides", 0)), (INT, ("divides", 101)), (INT, ("divides", -1)), (WORD, ("is", "")),
            (WORD, ("is", "abcdefghi")), (WORD, ("is", "A")), (PAIR, ("item", -1, ("is", "a"))),
            (INTS, ("every", ("divides", 0))), (INTS, ("size", ("not", ("divides", 0)))),
            (INT, ("or", ("atmost", 1), ("divides", 0))), (INT, ("and", ("divides", 0), ("atmost", 1))),
        ]:
            self.check_fault(("kept", generator, condition), "does not fit", ())

    def test_turned(self):
        for generator, some_map in [
            (INT, ("plus", 1001)), (INT, ("plus", -1001)), (INT, ("times", 1001)), (INT, ("times", -1001)),
            (WORD, ("plus", 1)), (INTS, ("times", 1)), (PAIR, ("item", 2)), (PAIR, ("item", -1)), (INTS, ("item", 0)),
            (INT, ("length",)), (PAIR, ("length",)), (INT, ("sum",)), (("list", WORD, 0, 1), ("sum",)),
            (("list", INTS, 0, 1), ("sorted",)), (PAIR, ("sorted",)), (PAIR, ("reversed",)), (WORD, ("reversed",)),
        ]:
            self.check_fault(("turned", generator, some_map), "does not fit", ())

    def test_repeat_of_what_is_no_integer(self):
        for first in (WORD, PAIR, INTS, ("tuple", (INT,)), ("tuple", ())):
            self.check_fault(("repeat", first, INT), "does not fit", ())


class Paths(Checks):
    def test_tuple_and_one(self):
        self.check_fault(("tuple", (BROKEN,)), "wrong bounds", (0,))
        self.check_fault(("tuple", (INT, WORD, BROKEN)), "wrong bounds", (2,))
        self.check_fault(("one", (INT, INT, INT, NO_WORDS)), "wrong words", (3,))

    def test_the_only_part(self):
        self.check_fault(("list", NO_WORDS, 0, 1), "wrong words", (0,))
        self.check_fault(("kept", BROKEN, ("atmost", 0)), "wrong bounds", (0,))
        self.check_fault(("turned", ("one", ()), ("plus", 0)), "wrong number", (0,))

    def test_repeat(self):
        self.check_fault(("repeat", BROKEN, INT), "wrong bounds", (0,))
        self.check_fault(("repeat", INT, NO_WORDS), "wrong words", (1,))

    def test_deep(self):
        inner = ("repeat", INT, ("turned", ("one", (INT, INT, BROKEN)), ("plus", 1)))
        self.check_fault(("tuple", (INT, ("list", ("kept", inner, ("rising",)), 0, 1))), "wrong bounds",
                         (1, 0, 0, 1, 0, 2))

    def test_every_kind_of_fault_in_a_part(self):
        for what, part in [
            ("wrong bounds", LESS), ("wrong bounds", ("list", INT, 0, 7)), ("wrong words", NO_WORDS),
            ("wrong number", ("tuple", (INT,) * 5)), ("other kinds", ("one", (INT, WORD))),
            ("does not fit", ("kept", WORD, ("rising",))), ("does not fit", ("turned", WORD, ("sum",))),
            ("does not fit", ("repeat", WORD, INT)),
        ]:
            self.check_fault(("tuple", (INT, part)), what, (1,))
            self.check_fault(("list", ("tuple", (part, INT)), 0, 1), what, (0, 0))


class FirstFault(Checks):
    def test_from_the_left(self):
        self.check_fault(("tuple", (INT, NO_WORDS, BROKEN)), "wrong words", (1,))
        self.check_fault(("tuple", (BROKEN, NO_WORDS)), "wrong bounds", (0,))
        self.check_fault(("repeat", BROKEN, NO_WORDS), "wrong bounds", (0,))
        self.check_fault(("one", (("list", BROKEN, 0, 1), NO_WORDS)), "wrong bounds", (0, 0))
        self.check_fault(("tuple", (("list", INT, 1, 0), NO_WORDS)), "wrong bounds", (0,))

    def test_parts_ahead_of_the_generator(self):
        self.check_fault(("tuple", (INT, INT, INT, INT, BROKEN)), "wrong bounds", (4,))
        self.check_fault(("one", (INT, WORD, BROKEN)), "wrong bounds", (2,))
        self.check_fault(("list", NO_WORDS, 3, 2), "wrong words", (0,))
        self.check_fault(("kept", NO_WORDS, ("atmost", 1)), "wrong words", (0,))
        self.check_fault(("turned", BROKEN, ("sorted",)), "wrong bounds", (0,))
        self.check_fault(("repeat", WORD, BROKEN), "wrong bounds", (1,))
        self.check_fault(("list", ("list", ("list", INT, 1, 0), 1, 0), 1, 0), "wrong bounds", (0, 0))

    def test_parts_of_parts_ahead_of_the_next_part(self):
        self.check_fault(("tuple", (("list", ("tuple", (INT, BROKEN)), 9, 9), NO_WORDS)), "wrong bounds", (0, 0, 1))


class KindBehind(unittest.TestCase):
    def check(self, some_map, wanted):
        """What is wanted for each kind in KINDS; None for those that do not stand there."""
        before = repr(some_map)
        for kind in KINDS:
            self.assertEqual(kind_behind(some_map, kind), wanted.get(kind), (some_map, kind))
        self.assertEqual(repr(some_map), before)

    def test_plus_and_times(self):
        for name in ("plus", "times"):
            for number in (0, 1, -1, 1000, -1000):
                self.check((name, number), {"int": "int"})
            for number in (1001, -1001, 10 ** 9):
                self.check((name, number), {})

    def test_item(self):
        several = ("tuple", (("list", "word"), "int", "word"))
        pair, single = ("tuple", ("int", "word")), ("tuple", ("int",))
        self.check(("item", 0), {single: "int", pair: "int", several: ("list", "word")})
        self.check(("item", 1), {pair: "word", several: "int"})
        self.check(("item", 2), {several: "word"})
        for place in (3, 4, 1000, -1, -2, -3):
            self.check(("item", place), {})

    def test_length_and_reversed(self):
        lists = [kind for kind in KINDS if kind[0] == "list"]
        self.assertEqual(len(lists), 4)
        self.check(("length",), {kind: "int" for kind in lists})
        self.check(("reversed",), {kind: kind for kind in lists})

    def test_sum_and_sorted(self):
        self.check(("sum",), {("list", "int"): "int"})
        self.check(("sorted",), {("list", "int"): ("list", "int"), ("list", "word"): ("list", "word")})


class Turning(unittest.TestCase):
    def check(self, some_map, value, wanted):
        before = repr((some_map, value))
        self.assertEqual(turn(some_map, value), wanted)
        self.assertIs(type(turn(some_map, value)), type(wanted))
        self.assertEqual(repr((some_map, value)), before)

    def test_plus_and_times(self):
        self.check(("plus", 3), 4, 7)
        self.check(("plus", -1000), -1000, -2000)
        self.check(("times", 3), 4, 12)
        self.check(("times", -1000), 1000, -1000000)
        self.check(("times", 0), -5, 0)

    def test_item(self):
        self.check(("item", 0), (5, "a"), 5)
        self.check(("item", 1), (5, "a"), "a")
        self.check(("item", 3), (1, 2, 3, (4, 5)), (4, 5))

    def test_length(self):
        self.check(("length",), (), 0)
        self.check(("length",), ("a", "a"), 2)
        self.check(("length",), ((1, 2, 3),), 1)

    def test_sum(self):
        self.check(("sum",), (), 0)
        self.check(("sum",), (5, -7, 1), -1)

    def test_sorted(self):
        self.check(("sorted",), (), ())
        self.check(("sorted",), (3, -1, 10, 3), (-1, 3, 3, 10))
        self.check(("sorted",), ("b", "ab", "a", "b"), ("a", "ab", "b", "b"))

    def test_reversed(self):
        self.check(("reversed",), (), ())
        self.check(("reversed",), (1, 3, 2), (2, 3, 1))
        self.check(("reversed",), ((1, 2), (3,)), ((3,), (1, 2)))

    def test_kinds_behind_maps_are_those_of_the_values(self):
        for generator in SMALL:
            if generator[0] == "turned":
                outcome = draw(generator, (0, 0))
                self.assertEqual(kind_of(generator) == "int", isinstance(outcome[1], int))


class Merged(unittest.TestCase):
    def check(self, generator, wanted):
        before = repr(generator)
        self.assertEqual(merged(generator), wanted)
        self.assertEqual(repr(generator), before)

    def test_plus_of_an_int(self):
        self.check(("turned", ("int", 2, 5), ("plus", 3)), ("int", 5, 8))
        self.check(("turned", ("int", 2, 5), ("plus", -3)), ("int", -1, 2))
        self.check(("turned", ("int", 2, 5), ("plus", 0)), ("int", 2, 5))

    def test_within_the_bounds(self):
        self.check(("turned", ("int", 0, 990), ("plus", 10)), ("int", 10, 1000))
        self.check(("turned", ("int", -990, 0), ("plus", -10)), ("int", -1000, -10))
        self.check(("turned", ("int", -1000, 0), ("plus", 1000)), ("int", 0, 1000))

    def test_beyond_the_bounds(self):
        for generator in [("turned", ("int", 0, 990), ("plus", 11)), ("turned", ("int", -990, 0), ("plus", -11)),
                          ("turned", ("int", 1000, 1000), ("plus", 1)), ("turned", ("int", -1000, 0), ("plus", -1))]:
            self.check(generator, generator)

    def test_other_maps_and_other_parts_stay(self):
        kept = ("kept", INT, ("atmost", 3))
        for generator in [("turned", INT, ("times", 2)), ("turned", INTS, ("sum",)), ("turned", kept, ("plus", 1)),
                          ("turned", ("one", (INT,)), ("plus", 1)), INT, WORD, PAIR, INTS, ("tuple", ()),
                          ("repeat", INT, WORD), kept]:
            self.check(generator, generator)

    def test_plus_from_the_inside_out(self):
        twice = ("turned", ("turned", ("int", 0, 9), ("plus", 1)), ("plus", 2))
        self.check(twice, ("int", 3, 12))
        self.check(("turned", ("turned", ("turned", ("int", 0, 9), ("plus", 1)), ("times", 2)), ("plus", 2)),
                   ("turned", ("turned", ("int", 1, 10), ("times", 2)), ("plus", 2)))

    def test_an_inner_one_that_stays_keeps_the_outer_one(self):
        generator = ("turned", ("turned", ("int", 0, 999), ("plus", 2)), ("plus", -5))
        self.check(generator, generator)
        self.check(("turned", ("turned", ("int", 0, 999), ("plus", 1)), ("plus", 1)),
                   ("turned", ("int", 1, 1000), ("plus", 1)))

    def test_kept_of_kept(self):
        first, second, third = ("atmost", 5), ("divides", 2), ("not", ("atmost", 1))
        self.check(("kept", ("kept", INT, first), second), ("kept", INT, ("and", first, second)))
        self.check(("kept", ("kept", ("kept", INT, first), second), third),
                   ("kept", INT, ("and", ("and", first, second), third)))

    def test_kept_behind_something_else_stays(self):
        generator = ("kept", ("turned", ("kept", INT, ("atmost", 5)), ("times", 2)), ("divides", 3))
        self.check(generator, generator)

    def test_in_all_parts(self):
        old, new = ("turned", ("int", 0, 9), ("plus", 1)), ("int", 1, 10)
        self.check(("tuple", (WORD, old, old)), ("tuple", (WORD, new, new)))
        self.check(("one", (INT, old)), ("one", (INT, new)))
        self.check(("list", old, 1, 4), ("list", new, 1, 4))
        self.check(("kept", old, ("atmost", 3)), ("kept", new, ("atmost", 3)))
        self.check(("turned", old, ("times", 3)), ("turned", new, ("times", 3)))
        self.check(("repeat", old, ("list", old, 0, 1)), ("repeat", new, ("list", new, 0, 1)))
        self.check(("kept", ("kept", old, ("atmost", 3)), ("divides", 2)),
                   ("kept", new, ("and", ("atmost", 3), ("divides", 2))))

    def test_it_has_the_same_kind(self):
        for generator in SMALL:
            self.assertEqual(kind_of(merged(generator)), kind_of(generator))
            self.assertEqual(merged(merged(generator)), merged(generator))


class Plain(unittest.TestCase):
    def test_plain_ones(self):
        for generator in [INT, WORD, PAIR, INTS, ("tuple", ()), ("one", (INT, INT)), ("turned", INTS, ("sum",)),
                          ("list", ("tuple", (("one", (PAIR,)), ("turned", INT, ("plus", 1)))), 0, 1)]:
            self.assertIs(is_plain(generator), True)

    def test_others(self):
        kept, repeat = ("kept", INT, ("atmost", 1000)), ("repeat", ("int", 0, 6), WORD)
        for part in (kept, repeat):
            for generator in [part, ("tuple", (INT, WORD, part)), ("list", part, 0, 0), ("one", (part, part)),
                              ("repeat", INT, part), ("list", ("tuple", (("one", (part,)),)), 0, 1)]:
                self.assertIs(is_plain(generator), False)
        self.assertIs(is_plain(("turned", kept, ("plus", 1))), False)
        self.assertIs(is_plain(("turned", repeat, ("length",))), False)
        self.assertIs(is_plain(("kept", INTS, ("rising",))), False)


if __name__ == "__main__":
    unittest.main()
