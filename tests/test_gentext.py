import unittest

from choicerows.errors import TextError
from choicerows.gentext import format_condition, format_generator, read_condition, read_generator
from samples import SMALL

INT = ("int", 0, 9)
GENERATORS = [
    (("int", 0, 9), "int(0, 9)"),
    (("int", -1000, -1), "int(-1000, -1)"),
    (("pick", ("a",)), "pick(a)"),
    (("pick", ("b", "a", "abcdefgh")), "pick(b, a, abcdefgh)"),
    (("tuple", ()), "tuple()"),
    (("tuple", (INT, ("pick", ("int",)))), "tuple(int(0, 9), pick(int))"),
    (("list", INT, 0, 3), "list(int(0, 9), 0, 3)"),
    (("one", (INT,)), "one(int(0, 9))"),
    (("one", (INT, ("int", 5, 6), INT)), "one(int(0, 9), int(5, 6), int(0, 9))"),
    (("kept", INT, ("not", ("atmost", 3))), "kept(int(0, 9), not(atmost(3)))"),
    (("turned", INT, ("plus", -5)), "turned(int(0, 9), plus(-5))"),
    (("repeat", INT, ("tuple", ())), "repeat(int(0, 9), tuple())"),
    (("list", ("tuple", (("one", (INT,)), ("tuple", ()))), 1, 6),
     "list(tuple(one(int(0, 9)), tuple()), 1, 6)"),
]
CONDITIONS = [
    (("atmost", -12), "atmost(-12)"),
    (("divides", 100), "divides(100)"),
    (("is", "word"), "is(word)"),
    (("item", 2, ("atmost", 0)), "item(2, atmost(0))"),
    (("every", ("is", "a")), "every(is(a))"),
    (("some", ("rising",)), "some(rising)"),
    (("size", ("atmost", 3)), "size(atmost(3))"),
    (("sum", ("divides", 7)), "sum(divides(7))"),
    (("rising",), "rising"),
    (("different",), "different"),
    (("not", ("different",)), "not(different)"),
    (("and", ("rising",), ("different",)), "and(rising, different)"),
    (("or", ("not", ("rising",)), ("and", ("different",), ("size", ("atmost", 1)))),
     "or(not(rising), and(different, size(atmost(1))))"),
]
MAPS = [
    (("plus", 1000), "plus(1000)"), (("times", -1), "times(-1)"), (("item", 3), "item(3)"), (("length",), "length"),
    (("sum",), "sum"), (("sorted",), "sorted"), (("reversed",), "reversed"),
]
UNFIT = [
    (("pick", ()), "pick()"), (("one", ()), "one()"), (("pick", ("a", "a")), "pick(a, a)"),
    (("pick", tuple("abcdefghijk")), "pick(a, b, c, d, e, f, g, h, i, j, k)"),
    (("tuple", (INT,) * 5), "tuple(int(0, 9), int(0, 9), int(0, 9), int(0, 9), int(0, 9))"),
    (("one", (INT, ("pick", ("a",)))), "one(int(0, 9), pick(a))"),
    (("int", 5, -999999), "int(5, -999999)"), (("list", INT, -1, 700000), "list(int(0, 9), -1, 700000)"),
    (("kept", INT, ("is", "a")), "kept(int(0, 9), is(a))"),
    (("kept", INT, ("item", -1, ("divides", 0))), "kept(int(0, 9), item(-1, divides(0)))"),
    (("turned", INT, ("item", -2)), "turned(int(0, 9), item(-2))"),
    (("repeat", ("tuple", ()), INT), "repeat(tuple(), int(0, 9))"),
]


def cut_names(text, place):
    """The place of the name that a text cut at a place would end in, or the place itself if it is a place between."""
    start = place
    while start > 0 and text[start - 1].isalpha():
        start -= 1
    end = place
    while end < len(text) and text[end].isalpha():
        end += 1
    return start, text[start:end]


def is_where_words_are(text, place):
    """Whether the innermost bracket that is open at a place is that of pick or is."""
    opened = []
    for at, sign in enumerate(text[:place]):
        if sign == "(":
            opened.append(text[:at])
        elif sign == ")":
            opened.pop()
    return bool(opened) and opened[-1].endswith(("pick", "is"))


class Formatting(unittest.TestCase):
    def test_generators(self):
        for generator, text in GENERATORS + UNFIT:
            before = repr(generator)
            self.assertEqual(format_generator(generator), text)
            self.assertEqual(repr(generator), before)

    def test_conditions(self):
        for condition, text in CONDITIONS:
            before = repr(condition)
            self.assertEqual(format_condition(condition), text)
            self.assertEqual(repr(condition), before)
            self.assertEqual(format_generator(("kept", INT, condition)), f"kept(int(0, 9), {text})")

    def test_maps(self):
        for some_map, text in MAPS:
            self.assertEqual(format_generator(("turned", INT, some_map)), f"turned(int(0, 9), {text})")


class Reading(unittest.TestCase):
    def test_generators(self):
        for generator, text in GENERATORS + UNFIT:
            self.assertEqual(read_generator(text), generator)

    def test_conditions(self):
        for condition, text in CONDITIONS:
            self.assertEqual(read_condition(text), condition)
            self.assertEqual(read_generator(f"kept(int(0, 9), {text})"), ("kept", INT, condition))

    def test_maps(self):
        for some_map, text in MAPS:
            self.assertEqual(read_generator(f"turned(int(0, 9), {text})"), ("turned", INT, some_map))

    def test_what_was_formatted(self):
        for generator in SMALL:
            self.assertEqual(read_generator(format_generator(generator)), generator)

    def test_integers(self):
        for number in (0, 1, -1, 10, 100, 909, 123456, 999999, -999999, -10):
            self.assertEqual(read_condition(f"atmost({number})"), ("atmost", number))

    def test_words_that_are_names(self):
        self.assertEqual(read_generator("pick(int,pick,rising,sum)"), ("pick", ("int", "pick", "rising", "sum")))
        self.assertEqual(read_condition("is(atmost)"), ("is", "atmost"))

    def test_example_of_the_document(self):
        generator = read_generator("list( kept(int(0,4),not(atmost(2))), 0,2 )")
        self.assertEqual(generator, ("list", ("kept", ("int", 0, 4), ("not", ("atmost", 2))), 0, 2))
        self.assertEqual(format_generator(generator), "list(kept(int(0, 4), not(atmost(2))), 0, 2)")

    def test_no_spaces_and_many(self):
        for generator, text in GENERATORS + UNFIT:
            tight = text.replace(" ", "")
            self.assertEqual(read_generator(tight), generator)
            wide = tight
            for sign in "(),":
                wide = wide.replace(sign, f"  {sign} ")
            self.assertEqual(read_generator(f"   {wide}  "), generator)
        self.assertEqual(read_condition("  rising "), ("rising",))
        self.assertEqual(read_condition(" is ( a ) "), ("is", "a"))
        self.assertEqual(read_condition("atmost( -5 )"), ("atmost", -5))

    def test_far_within_each_other(self):
        text = "not(" * 80 + "rising" + ")" * 80
        self.assertEqual(format_condition(read_condition(text)), text)
        text = "one(" * 80 + "tuple()" + ")" * 80
        self.assertEqual(format_generator(read_generator(text)), text)


class Faults(unittest.TestCase):
    def check(self, text, place, what, read=read_generator):
        with self.assertRaises(TextError) as held:
            read(text)
        self.assertEqual((held.exception.place, held.exception.what), (place, what), text)

    def not_expected(self, text, place, read=read_generator):
        self.check(text, place, "not expected", read)

    def not_finished(self, text, read=read_generator):
        self.check(text, len(text), "not finished", read)

    def test_examples_of_the_document(self):
        self.not_expected("int(-0, 1)", 5)
        self.not_expected("in", 0)
        self.not_expected("pick(abcdefghi)", 5)
        self.not_expected("pick(a, abcdefghi)", 8)

    def test_nothing_there(self):
        for read in (read_generator, read_condition):
            self.not_finished("", read)
            self.not_finished("   ", read)

    def test_names_that_are_none(self):
        for text in ("x", "ints(0, 1)", "intpick", "integer(0, 1)", "i", "Int(0, 1)", "iNT(0, 1)", "(", ")", ",", "3",
                     "-", "#", "\n", "picks(a)", "lists", "tuples()"):
            self.not_expected(text, 0)
        self.not_expected("  in", 2)
        self.not_expected("  in t(0, 1)", 2)

    def test_names_of_something_else(self):
        for name in ("atmost(3)", "rising", "plus(1)", "length", "item(0)", "sum"):
            self.not_expected(name, 0)
        for name in ("int(0, 1)", "tuple()", "plus(1)", "length", "sorted", "reversed", "times(1)"):
            self.not_expected(name, 0, read_condition)
        self.not_expected("kept(int(0, 9), int(0, 9))", 16)
        self.not_expected("kept(int(0, 9), plus(1))", 16)
        self.not_expected("turned(int(0, 9), rising)", 18)
        self.not_expected("turned(int(0, 9), atmost(1))", 18)
        self.not_expected("turned(int(0, 9), sum(atmost(1)))", 21)
        self.not_expected("turned(int(0, 9), item(0, atmost(1)))", 24)
        self.not_expected("kept(int(0, 9), sum)", 19)
        self.not_expected("kept(int(0, 9), item(0))", 22)
        self.not_expected("list(3, 0, 1)", 5)
        self.not_expected("tuple(atmost(1))", 6)

    def test_brackets_that_are_not_there(self):
        self.not_expected("int 0, 1)", 4)
        self.not_expected("int[0, 1]", 3)
        self.not_expected("int0, 1)", 3)
        self.not_expected("tuple)", 5)
        self.not_expected("int,", 3)
        self.not_expected("rising()", 6, read_condition)
        self.not_expected("rising ()", 7, read_condition)
        self.not_expected("not rising", 4, read_condition)
        self.not_expected("turned(int(0, 9), length())", 24)

    def test_integers(self):
        self.not_expected("int(a, 1)", 4)
        self.not_expected("int(, 1)", 4)
        self.not_expected("int()", 4)
        self.not_expected("int(+1, 1)", 4)
        self.not_expected("int(--1, 1)", 5)
        self.not_expected("int(- 1, 1)", 5)
        self.not_expected("int(-a, 1)", 5)
        self.not_expected("int(-, 1)", 5)
        self.not_expected("int(1 2, 3)", 6)
        self.not_expected("int(1a, 3)", 5)
        self.not_expected("int(1.5, 3)", 5)
        self.not_expected("int(1-1, 3)", 5)
        self.not_expected("int(int(0, 1), 3)", 4)

    def test_zeros_in_front(self):
        self.not_expected("int(00, 1)", 5)
        self.not_expected("int(007, 1)", 5)
        self.not_expected("int(01, 1)", 5)
        self.not_expected("int(-01, 1)", 5)
        self.not_expected("int(-00, 1)", 5)
        self.not_expected("int(0, -0)", 8)
        self.not_expected("int(0000000, 1)", 5)

    def test_seven_digits(self):
        self.not_expected("int(1234567, 1)", 10)
        self.not_expected("int(-1234567, 1)", 11)
        self.not_expected("int(0, 1000000)", 13)
        self.not_expected("int(0, 10000000000", 13)
        self.not_finished("int(0, 100000")

    def test_words(self):
        self.not_expected("pick(3)", 5)
        self.not_expected("pick(A)", 5)
        self.not_expected("pick(aB)", 6)
        self.not_expected("pick(a1)", 6)
        self.not_expected("pick(a b)", 7)
        self.not_expected("pick(a, )", 8)
        self.not_expected("pick(, a)", 5)
        self.not_expected("pick(a,, b)", 7)
        self.not_expected("pick((a))", 5)
        self.not_expected("is()", 3, read_condition)
        self.not_expected("is(a, b)", 4, read_condition)
        self.not_expected("is(abcdefghijk)", 3, read_condition)
        self.not_expected("is( abcdefghi", 4, read_condition)
        self.not_expected("pick(a\n)", 6)

    def test_too_few_and_too_many_things(self):
        self.not_expected("int(0)", 5)
        self.not_expected("int(0, 1, 2)", 8)
        self.not_expected("list(int(0, 1))", 14)
        self.not_expected("list(int(0, 1), 0)", 17)
        self.not_expected("list(int(0, 1), 0, 1, 2)", 20)
        self.not_expected("list()", 5)
        self.not_expected("kept(int(0, 1))", 14)
        self.not_expected("repeat(int(0, 1))", 16)
        self.not_expected("tuple(int(0, 1),)", 16)
        self.not_expected("tuple(,)", 6)
        self.not_expected("one(int(0, 1) int(0, 1))", 14)
        self.not_expected("not()", 4, read_condition)
        self.not_expected("and(rising)", 10, read_condition)
        self.not_expected("and(rising, rising, rising)", 18, read_condition)
        self.not_expected("or(rising rising)", 10, read_condition)

    def test_things_behind_the_end(self):
        self.not_expected("int(0, 1))", 9)
        self.not_expected("int(0, 1) x", 10)
        self.not_expected("int(0, 1),", 9)
        self.not_expected("int(0, 1)int(0, 1)", 9)
        self.not_expected("int(0, 1)\n", 9)
        self.not_expected("rising, rising", 6, read_condition)
        self.not_expected("rising  rising", 8, read_condition)
        self.not_expected("rising)", 6, read_condition)

    def test_the_first_fault_is_told(self):
        self.not_expected("int(x, abc", 4)
        self.not_expected("one(pick(abcdefghi), in", 9)
        self.not_expected("kept(int(00, 1), nothing", 10)

    def test_texts_that_end_too_early(self):
        for text in ("int", "int ", "int(", "int(-", "int(0", "int(12 ", "int(0,", "int(0, 1", "tuple(", "one( ",
                     "tuple(int(0, 1)", "tuple(int(0, 1),", "pick(", "pick(abc", "pick(abcdefgh", "pick(a,", "pick",
                     "list(int(0, 1)", "kept(int(0, 1), not(rising)", "turned(int(0, 1), sum", "kept(int(0, 1), sum"):
            self.not_finished(text)
        self.not_finished("not(rising", read_condition)
        self.not_finished("atmost", read_condition)

    def test_every_beginning_of_a_text(self):
        for told, read in [(GENERATORS, read_generator), (CONDITIONS, read_condition)]:
            for _, text in told:
                for place in range(len(text)):
                    self.check_cut(text, place, read)

    def check_cut(self, text, place, read):
        start, name = cut_names(text, place)
        if name == text[start:place] or start == place or is_where_words_are(text, start):
            self.not_finished(text[:place], read)
        else:
            self.not_expected(text[:place], start, read)

    def test_a_wrong_sign_at_every_place(self):
        for told, read in [(GENERATORS, read_generator), (CONDITIONS, read_condition)]:
            for _, text in told:
                for place in range(len(text) + 1):
                    for sign in "#\nA":
                        with self.assertRaises(TextError) as held:
                            read(text[:place] + sign + text[place:])
                        self.assertEqual(held.exception.what, "not expected")
                        self.assertIn(held.exception.place, (place, cut_names(text, place)[0]))


if __name__ == "__main__":
    unittest.main()
