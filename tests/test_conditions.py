import unittest

from choicerows.conditions import fits, holds, is_of_kind

INTS = ("list", "int")
WORDS = ("list", "word")
PAIR = ("tuple", ("int", "word"))
EMPTY = ("tuple", ())
KINDS = ["int", "word", INTS, WORDS, ("list", PAIR), ("list", INTS), PAIR, EMPTY, ("tuple", (INTS, WORDS))]
POSITIVE = ("not", ("atmost", 0))


class Checks(unittest.TestCase):
    def check(self, expected, function, *arguments):
        """True and False are wanted themselves, and the arguments stay as they are."""
        before = repr(arguments)
        self.assertIs(function(*arguments), expected, f"{function.__name__}{arguments}")
        self.assertEqual(repr(arguments), before)

    def check_kinds(self, condition, fitting):
        for kind in KINDS:
            self.check(kind in fitting, fits, condition, kind)


class IsOfKind(Checks):
    def test_integers(self):
        for value in (0, 1, -1, 1000, 1001, -1000, -1001, 10 ** 30):
            self.check(True, is_of_kind, value, "int")
            for kind in KINDS[1:]:
                self.check(False, is_of_kind, value, kind)

    def test_truth_values_are_no_integers(self):
        self.check(False, is_of_kind, True, "int")
        self.check(False, is_of_kind, False, "int")

    def test_words(self):
        for value in ("a", "z", "int", "abcdefg", "abcdefgh", "zzzzzzzz"):
            self.check(True, is_of_kind, value, "word")
            for kind in KINDS:
                if kind != "word":
                    self.check(False, is_of_kind, value, kind)

    def test_every_letter_is_one_of_a_word(self):
        for letter in "abcdefghijklmnopqrstuvwxyz":
            self.check(True, is_of_kind, letter, "word")

    def test_strings_that_are_no_words(self):
        for value in ("", "abcdefghi", "abcdefghijklmnop", "A", "Z", "aB", "0", "a1", " ", "a b", " a", "a ", "\n",
                      "a\n", "\na", "`", "{", "_", "a-b", "a.", "@", "[", "~", "-1", "12"):
            for kind in KINDS:
                self.check(False, is_of_kind, value, kind)

    def test_tuples(self):
        self.check(True, is_of_kind, (1, "a"), PAIR)
        self.check(True, is_of_kind, (-5, "abcdefgh"), PAIR)
        self.check(False, is_of_kind, ("a", 1), PAIR)
        self.check(False, is_of_kind, (1, 2), PAIR)
        self.check(False, is_of_kind, ("a", "b"), PAIR)
        self.check(False, is_of_kind, (1, "A"), PAIR)
        self.check(False, is_of_kind, (1, ""), PAIR)
        self.check(False, is_of_kind, ((1, "a"),), PAIR)

    def test_the_number_of_values_of_a_tuple(self):
        kind = ("tuple", ("int", "int", "int"))
        self.check(True, is_of_kind, (1, 2, 3), kind)
        self.check(False, is_of_kind, (1, 2), kind)
        self.check(False, is_of_kind, (1, 2, 3, 4), kind)
        self.check(False, is_of_kind, (), kind)
        self.check(False, is_of_kind, (1,), PAIR)
        self.check(False, is_of_kind, (1, "a", 2), PAIR)
        self.check(False, is_of_kind, (1, "a", "a"), PAIR)

    def test_the_empty_tuple(self):
        self.check(True, is_of_kind, (), EMPTY)
        self.check(False, is_of_kind, (1,), EMPTY)
        self.check(False, is_of_kind, ((),), EMPTY)
        self.check(True, is_of_kind, ((),), ("tuple", (EMPTY,)))
        self.check(False, is_of_kind, (), ("tuple", (EMPTY,)))
        self.check(False, is_of_kind, (), "int")
        self.check(False, is_of_kind, (), "word")

    def test_lists(self):
        self.check(True, is_of_kind, (1,), INTS)
        self.check(True, is_of_kind, (3, -1, 3), INTS)
        self.check(True, is_of_kind, ("a", "b"), WORDS)
        self.check(True, is_of_kind, tuple(range(20)), INTS)
        self.check(True, is_of_kind, ((1, "a"), (2, "b")), ("list", PAIR))
        self.check(False, is_of_kind, (1, "a"), INTS)
        self.check(False, is_of_kind, ("a", 1), INTS)
        self.check(False, is_of_kind, (1, 2), WORDS)
        self.check(False, is_of_kind, ("a", "B"), WORDS)
        self.check(False, is_of_kind, (1, "a"), ("list", PAIR))

    def test_the_empty_list(self):
        for kind in KINDS:
            self.check(kind == EMPTY or kind[0] == "list", is_of_kind, (), kind)
        self.check(True, is_of_kind, ((), ()), ("list", INTS))
        self.check(True, is_of_kind, ((), ()), ("list", EMPTY))
        self.check(True, is_of_kind, ((), ()), ("tuple", (INTS, WORDS)))

    def test_one_value_may_be_of_several_kinds(self):
        self.check(True, is_of_kind, (1, 2), INTS)
        self.check(True, is_of_kind, (1, 2), ("tuple", ("int", "int")))

    def test_another_kind_deep_inside(self):
        kind = ("list", ("tuple", ("int", ("list", ("tuple", (WORDS, "int"))))))
        self.check(True, is_of_kind, ((1, ((("a", "b"), 2), ((), 3))), (4, ())), kind)
        self.check(False, is_of_kind, ((1, ((("a", "b"), 2), ((), "c"))), (4, ())), kind)
        self.check(False, is_of_kind, ((1, ((("a", 0), 2), ((), 3))), (4, ())), kind)
        self.check(False, is_of_kind, ((1, ((("a", "b"), 2), ((), 3))), (4, 4)), kind)
        self.check(False, is_of_kind, ((1, ((("a", "b"), 2), ((),))), (4, ())), kind)
        self.check(False, is_of_kind, ((1, ((("a", "b "), 2), ((), 3))), (4, ())), kind)

    def test_kinds_within_each_other_somewhat_beyond_8(self):
        kind, good, bad = "int", 1, "a"
        for _ in range(30):
            kind, good, bad = ("list", ("tuple", (kind,))), ((good,),), ((bad,),)
        self.check(True, is_of_kind, good, kind)
        self.check(False, is_of_kind, bad, kind)


class Fits(Checks):
    def test_atmost(self):
        for number in (0, 1, -1, 1000, 1001, -1001, 10 ** 20):
            self.check_kinds(("atmost", number), ["int"])

    def test_divides(self):
        for number in (1, 2, 50, 99, 100):
            self.check_kinds(("divides", number), ["int"])

    def test_wrong_divisors_fit_nothing(self):
        for number in (0, 101, 102, 1000, -1, -2, -100):
            self.check_kinds(("divides", number), [])

    def test_is(self):
        for word in ("a", "is", "int", "abcdefgh"):
            self.check_kinds(("is", word), ["word"])

    def test_is_with_what_is_no_word_fits_nothing(self):
        for text in ("", "abcdefghi", "A", "a b", " a", "a\n", "1", "a1", "-", "{", "`"):
            self.check_kinds(("is", text), [])

    def test_item(self):
        for kind, place, condition, expected in [
            (PAIR, 0, ("atmost", 1), True), (PAIR, 1, ("is", "a"), True),
            (PAIR, 0, ("is", "a"), False), (PAIR, 1, ("atmost", 1), False),
            (PAIR, 2, ("is", "a"), False), (PAIR, 2, ("atmost", 1), False), (PAIR, 3, ("is", "a"), False),
            (PAIR, -1, ("is", "a"), False), (PAIR, -2, ("atmost", 1), False), (PAIR, -3, ("atmost", 1), False),
            (("tuple", ("int",)), 0, ("atmost", 1), True), (("tuple", ("int",)), 1, ("atmost", 1), False),
            (("tuple", ("int",)), -1, ("atmost", 1), False), (EMPTY, 0, ("atmost", 1), False),
            (EMPTY, -1, ("atmost", 1), False), (("tuple", (INTS, WORDS)), 0, ("rising",), True),
            (("tuple", (INTS, WORDS)), 1, ("rising",), False),
            (("tuple", ("int", "int", "int", "word")), 3, ("is", "a"), True),
            (("tuple", ("int", "int", "int", "word")), 4, ("is", "a"), False),
        ]:
            self.check(expected, fits, ("item", place, condition), kind)

    def test_item_fits_no_lists_integers_and_words(self):
        for kind in ("int", "word", INTS, WORDS, ("list", PAIR), ("list", INTS), ("list", EMPTY)):
            for place in (-1, 0, 1):
                for condition in (("atmost", 1), ("is", "a"), ("different",)):
                    self.check(False, fits, ("item", place, condition), kind)

    def test_every_and_some(self):
        for name in ("every", "some"):
            self.check_kinds((name, ("atmost", 1)), [INTS])
            self.check_kinds((name, ("is", "a")), [WORDS])
            self.check_kinds((name, ("rising",)), [("list", INTS)])
            self.check_kinds((name, ("different",)), [("list", INTS)])
            self.check_kinds((name, ("item", 1, ("is", "a"))), [("list", PAIR)])
            self.check_kinds((name, ("divides", 0)), [])

    def test_size(self):
        lists = [INTS, WORDS, ("list", PAIR), ("list", INTS)]
        self.check_kinds(("size", ("atmost", 1)), lists)
        self.check_kinds(("size", ("divides", 100)), lists)
        self.check_kinds(("size", ("divides", 101)), [])
        self.check_kinds(("size", ("is", "a")), [])
        self.check_kinds(("size", ("rising",)), [])
        self.check_kinds(("size", ("size", ("atmost", 1))), [])

    def test_sum(self):
        self.check_kinds(("sum", ("atmost", 1)), [INTS])
        self.check_kinds(("sum", ("divides", 100)), [INTS])
        self.check_kinds(("sum", ("divides", 0)), [])
        self.check_kinds(("sum", ("is", "a")), [])
        self.check_kinds(("sum", ("sum", ("atmost", 1))), [])

    def test_rising_and_different(self):
        self.check_kinds(("rising",), [INTS])
        self.check_kinds(("different",), [INTS, WORDS, ("list", PAIR), ("list", INTS)])
        self.check(True, fits, ("different",), ("list", EMPTY))
        self.check(False, fits, ("rising",), ("list", EMPTY))

    def test_not(self):
        self.check_kinds(("not", ("atmost", 1)), ["int"])
        self.check_kinds(("not", ("is", "a")), ["word"])
        self.check_kinds(("not", ("rising",)), [INTS])
        self.check_kinds(("not", ("divides", 0)), [])
        self.check_kinds(("not", ("not", ("is", "A"))), [])

    def test_and_and_or(self):
        for name in ("and", "or"):
            self.check_kinds((name, ("atmost", 1), ("divides", 2)), ["int"])
            self.check_kinds((name, ("is", "a"), ("is", "b")), ["word"])
            self.check_kinds((name, ("different",), ("rising",)), [INTS])
            self.check_kinds((name, ("rising",), ("different",)), [INTS])
            self.check_kinds((name, ("atmost", 1), ("is", "a")), [])
            self.check_kinds((name, ("atmost", 1), ("divides", 0)), [])
            self.check_kinds((name, ("divides", -1), ("atmost", 1)), [])

    def test_a_part_deep_inside(self):
        kind = ("list", ("tuple", ("int", WORDS)))
        for inner, expected in [
            (("is", "a"), True), (("is", "aB"), False), (("is", ""), False), (("atmost", 1), False),
            (("rising",), False),
        ]:
            condition = ("or", ("size", ("atmost", 2)), ("every", ("not", ("item", 1, ("some", inner)))))
            self.check(expected, fits, condition, kind)
        for divisor, expected in [(1, True), (100, True), (0, False), (101, False), (-1, False)]:
            condition = ("not", ("some", ("item", 0, ("and", ("atmost", 9), ("not", ("divides", divisor))))))
            self.check(expected, fits, condition, kind)
        for place, expected in [(1, True), (0, False), (-1, False), (2, False)]:
            condition = ("every", ("or", ("item", 0, ("atmost", 0)), ("item", place, ("different",))))
            self.check(expected, fits, condition, kind)

    def test_conditions_within_each_other_somewhat_beyond_8(self):
        good, bad = ("divides", 100), ("divides", 101)
        for _ in range(30):
            good, bad = ("not", good), ("not", bad)
        self.check(True, fits, good, "int")
        self.check(False, fits, bad, "int")


class Holds(Checks):
    def check_holds(self, condition, holding, others):
        for value in holding:
            self.check(True, holds, condition, value)
            self.check(False, holds, ("not", condition), value)
        for value in others:
            self.check(False, holds, condition, value)
            self.check(True, holds, ("not", condition), value)

    def test_atmost(self):
        self.check_holds(("atmost", 3), [3, 2, 0, -4], [4, 5, 1000])
        self.check_holds(("atmost", 0), [0, -1], [1])
        self.check_holds(("atmost", -2), [-2, -3], [-1, 0, 2])

    def test_divides(self):
        self.check_holds(("divides", 1), [0, 1, -1, 7], [])
        self.check_holds(("divides", 3), [0, 3, -3, 999], [1, 2, -1, -2, 4, 1000])
        self.check_holds(("divides", 100), [0, 100, -100, 1000], [50, 99, 1, -50])

    def test_is(self):
        self.check_holds(("is", "ab"), ["ab"], ["a", "b", "abc", "ba", "aab"])

    def test_item(self):
        self.check_holds(("item", 0, ("atmost", 3)), [(3, "b"), (-1, "a")], [(4, "a")])
        self.check_holds(("item", 1, ("is", "a")), [(9, "a")], [(9, "b")])
        self.check_holds(("item", 2, ("atmost", 0)), [(1, 1, 0)], [(0, 0, 1)])

    def test_every(self):
        self.check_holds(("every", ("atmost", 3)), [(), (3,), (1, 2, 3)], [(4,), (4, 1, 2), (1, 4, 2), (1, 2, 4)])

    def test_some(self):
        self.check_holds(("some", ("atmost", 3)), [(3,), (3, 9, 9), (9, 3, 9), (9, 9, 3)], [(), (4,), (4, 5, 6)])

    def test_size(self):
        self.check_holds(("size", ("atmost", 1)), [(), (9,), ("ab",)], [(9, 9), (0, 0, 0)])
        self.check_holds(("size", ("divides", 2)), [(), ("a", "a"), (1, 2, 3, 4)], [("a",), (2, 2, 2)])
        self.check_holds(("size", POSITIVE), [(0,), (0, 0)], [()])

    def test_sum(self):
        self.check_holds(("sum", ("atmost", 3)), [(), (3,), (1, 2), (9, -6), (-1, -1)], [(4,), (2, 2), (1, 1, 1, 1)])
        self.check_holds(("sum", ("divides", 5)), [(), (0,), (2, 3), (-2, -3)], [(1,), (5, 1)])
        self.check_holds(("sum", POSITIVE), [(1,), (-1, 2)], [(), (0,), (1, -1)])

    def test_rising(self):
        self.check_holds(("rising",), [(), (5,), (1, 2), (2, 2), (-3, -3, 0, 0), (-2, -1)],
                         [(2, 1), (1, 3, 2), (3, 1, 2), (0, -1), (1, 1, 0)])

    def test_different(self):
        self.check_holds(("different",), [(), (5,), (1, 2), (2, 1, 3), ("a", "b"), ((), (1,)), ((1, 2), (2, 1))],
                         [(2, 2), (1, 2, 1), (1, 2, 2), (2, 2, 1), ("a", "b", "a"), ((), ()), ((1, 2), (0,), (1, 2))])

    def test_different_values_that_are_deep(self):
        one, other = (1,), (2,)
        for _ in range(12):
            one, other = (one,), (other,)
        self.check_holds(("different",), [(one, other)], [(one, other, one)])

    def test_and(self):
        self.check_holds(("and", ("atmost", 9), ("divides", 2)), [0, 8, -2], [10, 7, 11])

    def test_or(self):
        self.check_holds(("or", ("atmost", 9), ("divides", 2)), [0, 8, 10, 7], [11])

    def test_not(self):
        self.check_holds(("not", ("atmost", 3)), [4], [3])
        self.check_holds(("not", ("not", ("atmost", 3))), [3], [4])

    def test_conditions_in_each_other(self):
        condition = ("every", ("and", ("item", 0, POSITIVE), ("item", 1, ("some", ("is", "a")))))
        self.check_holds(condition, [(), ((1, ("a",)),), ((1, ("b", "a")), (2, ("a",)))],
                         [((0, ("a",)),), ((1, ()),), ((1, ("b",)),), ((1, ("a",)), (2, ("b", "c")))])
        condition = ("some", ("or", ("sum", ("divides", 7)), ("not", ("size", ("atmost", 2)))))
        self.check_holds(condition, [((3, 4),), ((1,), ()), ((1, 1, 1),)], [(), ((1,),), ((1, 1), (8,))])
        condition = ("or", ("and", ("rising",), ("different",)), ("size", ("not", ("atmost", 3))))
        self.check_holds(condition, [(1, 2), (), (4, 3, 2, 1)], [(2, 1), (1, 1), (1, 1, 0)])


if __name__ == "__main__":
    unittest.main()
