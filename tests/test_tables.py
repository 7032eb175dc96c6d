import unittest
from fractions import Fraction
from math import gcd

from choicerows.errors import GeneratorError
from choicerows.gentext import read_generator
from choicerows.generators import merged
from choicerows.tables import (
    chance, count_rows, draw_equally, first_rows, least_row, make_equally, refused_chance, table, values_of,
)
from samples import SMALL, all_draws, exact_draws

BIT = ("int", 0, 1)
DIGIT = ("int", 0, 9)
NOTHING = ("kept", BIT, ("atmost", -1))
GREAT = ("int", -1000, 1000)
FULL = ("int", -999, 1000)
ONE_VALUE = ("turned", FULL, ("times", 0))
LETTERS = ("pick", ("a", "b", "c", "d", "e", "f", "g", "h", "i", "j"))
# 5000 exact rows and 5001 ones, with few values.
EXACT = ("one", (ONE_VALUE, ONE_VALUE, ("turned", ("int", 1, 1000), ("times", 0))))
BEYOND = ("one", (ONE_VALUE, ONE_VALUE, ("turned", ("int", 0, 1000), ("times", 0))))


def table_by_draws(generator):
    """The table as point [13] tells it, found from all exact rows."""
    found = []
    for row, value, _ in exact_draws(generator):
        for triple in found:
            if triple[0] == value:
                triple[1] += 1
                break
        else:
            found.append([value, 1, row])
    return [tuple(triple) for triple in found]


class Checks(unittest.TestCase):
    def check_too_many(self, path, function, *arguments):
        before = repr(arguments)
        with self.assertRaises(GeneratorError) as held:
            function(*arguments)
        self.assertEqual((held.exception.what, held.exception.path), ("too many", path), arguments)
        self.assertEqual(repr(arguments), before)


class Tables(Checks):
    def check(self, generator, wanted):
        before = repr(generator)
        found = table(generator)
        self.assertEqual(found, wanted)
        self.assertIs(type(found), list)
        self.assertEqual(values_of(generator), [triple[0] for triple in wanted])
        self.assertIs(type(values_of(generator)), list)
        self.assertEqual(count_rows(generator), sum(triple[1] for triple in wanted))
        for value, _, row in wanted:
            self.assertEqual(least_row(generator, value), row)
        self.assertEqual(repr(generator), before)

    def test_int_and_pick(self):
        self.check(("int", -1, 1), [(-1, 1, (0,)), (0, 1, (1,)), (1, 1, (2,))])
        self.check(("pick", ("b", "a")), [("b", 1, (0,)), ("a", 1, (1,))])

    def test_tuple(self):
        self.check(("tuple", ()), [((), 1, ())])
        self.check(("tuple", (BIT, ("pick", ("b", "a")))),
                   [((0, "b"), 1, (0, 0)), ((0, "a"), 1, (0, 1)), ((1, "b"), 1, (1, 0)), ((1, "a"), 1, (1, 1))])

    def test_list(self):
        self.check(("list", BIT, 1, 2), [
            ((0,), 1, (0, 0)), ((1,), 1, (1, 0)), ((0, 0), 1, (0, 1, 0)), ((0, 1), 1, (0, 1, 1)),
            ((1, 0), 1, (1, 1, 0)), ((1, 1), 1, (1, 1, 1)),
        ])
        self.check(("list", BIT, 0, 0), [((), 1, ())])

    def test_one(self):
        self.check(("one", (("int", 1, 2), ("int", 0, 1))), [(1, 2, (0, 0)), (2, 1, (0, 1)), (0, 1, (1, 0))])

    def test_the_least_row_is_a_shorter_one(self):
        pairs = ("turned", ("tuple", (BIT, BIT)), ("item", 0))
        self.check(("one", (pairs, BIT)), [(0, 3, (1, 0)), (1, 3, (1, 1))])
        self.check(("one", (BIT, pairs)), [(0, 3, (0, 0)), (1, 3, (0, 1))])

    def test_kept_and_turned(self):
        self.check(("kept", DIGIT, ("divides", 4)), [(0, 1, (0,)), (4, 1, (4,)), (8, 1, (8,))])
        self.check(("turned", ("list", BIT, 0, 2), ("sum",)),
                   [(0, 3, (0,)), (1, 3, (1, 1, 0)), (2, 1, (1, 1, 1, 1))])
        self.check(("turned", DIGIT, ("times", 0)), [(0, 10, (0,))])

    def test_repeat(self):
        self.check(("repeat", ("int", -1, 1), BIT), [((), 1, (1,)), ((0,), 1, (2, 0)), ((1,), 1, (2, 1))])
        self.check(("repeat", ("int", 6, 7), ("tuple", ())), [(((),) * 6, 1, (0,))])
        self.check(("repeat", ("turned", BIT, ("times", 0)), DIGIT), [((), 2, (0,))])

    def test_nothing_is_drawn(self):
        for generator in (NOTHING, ("tuple", (DIGIT, NOTHING)), ("tuple", (NOTHING, DIGIT)), ("list", NOTHING, 1, 6),
                          ("repeat", NOTHING, DIGIT), ("repeat", ("int", 7, 9), BIT),
                          ("repeat", ("int", 1, 6), NOTHING), ("turned", NOTHING, ("plus", 1)),
                          ("one", (NOTHING, NOTHING))):
            self.check(generator, [])
            self.assertIs(least_row(generator, 0), None)

    def test_an_empty_part_where_none_of_it_is_drawn(self):
        self.check(("list", NOTHING, 0, 6), [((), 1, (0,))])
        self.check(("repeat", BIT, NOTHING), [((), 1, (0,))])
        self.check(("one", (NOTHING, BIT)), [(0, 1, (1, 0)), (1, 1, (1, 1))])

    def test_by_all_draws(self):
        for generator in SMALL:
            self.check(generator, table_by_draws(generator))

    def test_values_that_are_not_drawn(self):
        generator = ("one", (("int", 1, 2), ("int", 2, 3)))
        for value in (0, 4, "a", (), (1,), ((2,),), 10 ** 30):
            self.assertIs(least_row(generator, value), None)
        self.assertIs(least_row(("list", BIT, 0, 1), (0, 0)), None)
        self.assertIs(least_row(("pick", ("a",)), "b"), None)
        self.assertEqual(least_row(("tuple", ()), ()), ())

    def test_values_that_look_alike_are_different(self):
        generator = ("one", (("list", ("pick", ("a", "b", "ab")), 0, 2), ("list", ("pick", ("ab",)), 1, 1)))
        self.check(generator, table_by_draws(generator))

    def test_example_of_the_document(self):
        generator = read_generator("list( kept(int(0,4),not(atmost(2))), 0,2 )")
        self.assertEqual(table(generator)[:3], [((), 1, (0,)), ((3,), 1, (1, 3, 0)), ((4,), 1, (1, 4, 0))])
        self.assertEqual(least_row(generator, (4, 3)), (1, 4, 1, 3))
        self.assertEqual((chance(generator, (3,)), chance(generator, ())), ((1, 20), (1, 2)))

    def test_great_counts(self):
        generator = ONE_VALUE
        for power in (1, 6, 36):
            self.assertEqual(count_rows(generator), 2000 ** power)
            self.assertEqual(len(table(generator)), 1)
            generator = ("list", generator, 6, 6)

    def test_far_within_each_other(self):
        generator = BIT
        for _ in range(12):
            generator = ("list", generator, 1, 1)
        value, other = 0, 1
        for _ in range(12):
            value, other = (value,), (other,)
        self.check(generator, [(value, 1, (0,)), (other, 1, (1,))])
        self.check(("one", (generator, generator)), [(value, 2, (0, 0)), (other, 2, (0, 1))])

    def test_lists_are_new(self):
        generator = ("list", BIT, 0, 1)
        for function, arguments in [(table, ()), (values_of, ()), (first_rows, (3,)), (first_rows, (0,))]:
            found = function(generator, *arguments)
            kept = list(found)
            found.append("more")
            found.reverse()
            self.assertEqual(function(generator, *arguments), kept)
            self.assertIsNot(function(generator, *arguments), function(generator, *arguments))


class LeastRows(Checks):
    def test_of_tuples(self):
        parts = (("one", (DIGIT, ("int", 5, 12))), ("turned", ("list", BIT, 0, 2), ("sum",)))
        for value in values_of(parts[0]):
            for other in values_of(parts[1]):
                self.assertEqual(least_row(("tuple", parts), (value, other)),
                                 least_row(parts[0], value) + least_row(parts[1], other))

    def test_of_lists(self):
        part = ("one", (("int", 3, 4), ("int", 4, 5)))
        rows = {value: least_row(part, value) for value in (3, 4, 5)}
        generator = ("list", part, 1, 3)
        self.assertEqual(least_row(generator, (4,)), (*rows[4], 0))
        self.assertEqual(least_row(generator, (5, 4)), (*rows[5], 1, *rows[4], 0))
        self.assertEqual(least_row(generator, (5, 4, 3)), (*rows[5], 1, *rows[4], 1, *rows[3]))

    def test_of_one(self):
        self.assertEqual(least_row(("one", (NOTHING, BIT, DIGIT)), 7), (2, 7))


class TooManyValues(Checks):
    FUNCTIONS = [
        (table, ()), (values_of, ()), (least_row, (0,)), (count_rows, ()), (chance, (0,)), (refused_chance, ()),
        (first_rows, (1,)), (first_rows, (0,)), (draw_equally, (BIT,)), (make_equally, (BIT,)),
    ]

    def check_all(self, path, generator):
        for function, more in self.FUNCTIONS:
            self.check_too_many(path, function, generator, *more)
        for function in (draw_equally, make_equally):
            self.check_too_many(path, function, BIT, generator)

    def test_two_thousand_and_one_more(self):
        self.assertEqual(len(table(FULL)), 2000)
        self.check_all((), GREAT)

    def test_two_thousand_and_one_more_of_each_form(self):
        for wanted, more in [
            (("tuple", (("int", 1, 200), LETTERS)), ("tuple", (("int", 1, 201), LETTERS))),
            (("list", ("int", -998, 1000), 0, 1), ("list", FULL, 0, 1)),
            (("list", ("int", 0, 3), 5, 5), ("list", ("int", 0, 6), 4, 4)),
            (("one", (("int", 1, 1000), ("int", 500, 1000), ("int", -999, 0))),
             ("one", (("int", 1, 1000), ("int", 500, 1000), ("int", -1000, 0)))),
            (("one", (FULL, FULL)), ("one", (FULL, ("turned", FULL, ("times", -1))))),
            (("repeat", BIT, ("int", -998, 1000)), ("repeat", BIT, FULL)),
            (("repeat", ("int", -5, 5), ("int", 0, 3)), ("repeat", ("int", -5, 6), ("int", 0, 3))),
        ]:
            self.assertLessEqual(len(table(wanted)), 2000)
            self.check_all((), more)

    def test_lengths_that_are_not_drawn_do_not_count(self):
        self.assertEqual(len(table(("list", ("int", 0, 6), 0, 3))), 400)
        self.assertEqual(len(table(("list", ("int", 0, 6), 3, 3))), 343)
        self.assertEqual(len(table(("repeat", ("int", -1, 1), ("int", -998, 1000)))), 2000)
        self.assertEqual(len(table(("repeat", ("int", 3, 3), ("int", 0, 6)))), 343)
        self.assertEqual(len(table(("repeat", ("one", (BIT, ("int", 7, 900))), ("int", 1, 1000)))), 1001)

    def test_the_number_of_values_counts_and_not_that_of_rows(self):
        self.assertEqual(len(table(("one", (FULL,) * 4))), 2000)
        self.assertEqual(count_rows(("one", (FULL,) * 4)), 8000)

    def test_in_a_part(self):
        self.check_all((0,), ("kept", GREAT, ("atmost", 0)))
        self.check_all((0,), ("turned", GREAT, ("times", 0)))
        self.check_all((0,), ("list", GREAT, 0, 0))
        self.check_all((1,), ("tuple", (BIT, GREAT, BIT)))
        self.check_all((2,), ("one", (BIT, FULL, GREAT)))
        self.check_all((1,), ("repeat", ("int", 7, 9), GREAT))
        self.check_all((0,), ("repeat", GREAT, BIT))
        self.check_all((1, 0, 0), ("tuple", (NOTHING, ("kept", ("list", GREAT, 0, 1), ("size", ("atmost", 0))))))
        self.check_all((0,), ("kept", ("tuple", (DIGIT, DIGIT, DIGIT, DIGIT)), ("item", 0, ("atmost", 0))))

    def test_parts_from_the_left_and_ahead_of_the_generator(self):
        square = ("tuple", (FULL, FULL))
        self.check_all((0,), ("tuple", (GREAT, GREAT)))
        self.check_all((1,), ("tuple", (FULL, square, GREAT)))
        self.check_all((0, 1), ("tuple", (("tuple", (FULL, GREAT)), GREAT)))
        self.check_all((), ("tuple", (FULL, FULL)))
        self.check_all((0,), ("list", ("list", FULL, 2, 2), 2, 2))

    def test_far_greater_ones(self):
        self.check_all((0, 0), ("list", ("list", GREAT, 6, 6), 6, 6))
        self.check_all((0,), ("list", ("list", FULL, 6, 6), 6, 6))
        self.check_all((), ("list", FULL, 0, 6))
        self.check_all((), ("tuple", (FULL,) * 4))
        self.check_all((), ("repeat", ("int", 0, 6), FULL))
        self.check_all((), ("repeat", ("int", 6, 6), FULL))
        self.check_all((0, 0, 0), ("list", ("list", ("list", ("list", FULL, 6, 6), 6, 6), 6, 6), 6, 6))

    def test_a_part_of_which_nothing_comes(self):
        self.assertEqual(table(("tuple", (FULL, FULL, FULL, NOTHING))), [])
        self.assertEqual(table(("tuple", (FULL, NOTHING, FULL, FULL))), [])
        self.assertEqual(first_rows(("tuple", (FULL, FULL, FULL, NOTHING)), 5), [])

    def test_faults_are_told_ahead_of_it(self):
        for function, more in self.FUNCTIONS:
            with self.assertRaises(GeneratorError) as held:
                function(("tuple", (GREAT, ("pick", ()))), *more)
            self.assertEqual((held.exception.what, held.exception.path), ("wrong words", (1,)))


class Chances(Checks):
    def check(self, generator, value, wanted):
        before = repr((generator, value))
        found = chance(generator, value)
        self.assertEqual(found, wanted)
        self.assertIs(type(found), tuple)
        self.assertEqual(repr((generator, value)), before)

    def test_each_form(self):
        self.check(("int", 1, 6), 3, (1, 6))
        self.check(("int", 3, 3), 3, (1, 1))
        self.check(("pick", ("a", "b", "c")), "c", (1, 3))
        self.check(("tuple", ()), (), (1, 1))
        self.check(("tuple", (BIT, ("int", 0, 2))), (1, 2), (1, 6))
        self.check(("list", ("int", 0, 2), 1, 3), (2,), (1, 6))
        self.check(("list", ("int", 0, 2), 1, 3), (2, 0), (1, 36))
        self.check(("list", ("int", 0, 2), 1, 3), (2, 0, 0), (1, 108))
        self.check(("list", ("int", 0, 2), 2, 2), (2, 0), (1, 9))
        self.check(("one", (("int", 1, 2), ("int", 2, 4))), 2, (5, 12))
        self.check(("kept", DIGIT, ("divides", 5)), 5, (1, 10))
        self.check(("turned", DIGIT, ("times", 0)), 0, (1, 1))
        self.check(("turned", ("list", BIT, 2, 2), ("sum",)), 1, (1, 2))
        self.check(("repeat", ("int", -1, 2), ("int", 0, 2)), (1,), (1, 12))
        self.check(("repeat", ("int", -1, 2), ("int", 0, 2)), (1, 1), (1, 36))

    def test_values_that_are_not_drawn(self):
        for value in (10, -1, "a", (), (1,)):
            self.check(DIGIT, value, (0, 1))
        self.check(("kept", DIGIT, ("divides", 5)), 4, (0, 1))
        self.check(NOTHING, 0, (0, 1))
        self.check(("list", BIT, 0, 2), (0, 0, 0), (0, 1))
        self.check(("repeat", ("int", 7, 7), BIT), (0,) * 7, (0, 1))

    def test_of_refusing(self):
        for generator, wanted in [
            (DIGIT, (0, 1)), (NOTHING, (1, 1)), (("kept", DIGIT, ("divides", 5)), (4, 5)),
            (("list", ("kept", DIGIT, ("divides", 5)), 1, 2), (22, 25)), (("tuple", (BIT, NOTHING)), (1, 1)),
            (("repeat", ("int", -1, 7), BIT), (2, 9)), (("repeat", ("int", 0, 6), BIT), (0, 1)),
            (("one", (BIT, NOTHING, BIT)), (1, 3)), (("tuple", ()), (0, 1)),
        ]:
            before = repr(generator)
            self.assertEqual(refused_chance(generator), wanted)
            self.assertIs(type(refused_chance(generator)), tuple)
            self.assertEqual(repr(generator), before)

    def test_by_all_draws(self):
        for generator in SMALL:
            refused = sum(part for _, outcome, part in all_draws(generator) if outcome[0] == "refused")
            self.assertEqual(Fraction(*refused_chance(generator)), refused)
            drawn = exact_draws(generator)
            for value in values_of(generator):
                wanted = sum(part for _, other, part in drawn if other == value)
                self.check(generator, value, (wanted.numerator, wanted.denominator))

    def test_they_are_in_lowest_terms_and_add_up_to_one(self):
        for generator in SMALL:
            numbers = [chance(generator, value) for value in values_of(generator)] + [refused_chance(generator)]
            for top, bottom in numbers:
                self.assertGreaterEqual(bottom, 1)
                self.assertEqual(gcd(top, bottom), 1)
            self.assertEqual(sum(Fraction(top, bottom) for top, bottom in numbers), 1)

    def test_great_numbers(self):
        generator = ("list", ("list", ("kept", FULL, ("atmost", -999)), 6, 6), 6, 6)
        self.check(generator, ((-999,) * 6,) * 6, (1, 2000 ** 36))
        self.assertEqual(refused_chance(generator), (2000 ** 36 - 1, 2000 ** 36))


class FirstRows(Checks):
    def check(self, generator, many, wanted):
        before = repr(generator)
        found = first_rows(generator, many)
        self.assertEqual(found, wanted)
        self.assertIs(type(found), list)
        self.assertEqual(repr(generator), before)

    def test_none_some_all_and_more(self):
        generator = ("list", BIT, 0, 2)
        rows = [(0,), (1, 0, 0), (1, 1, 0), (1, 0, 1, 0), (1, 0, 1, 1), (1, 1, 1, 0), (1, 1, 1, 1)]
        for many in (0, 1, 2, 6, 7, 8, 100, 10 ** 20):
            self.check(generator, many, rows[:many])

    def test_rows_that_draw_the_same_value(self):
        generator = ("one", (("turned", BIT, ("times", 0)), ("int", 0, 0)))
        self.check(generator, 5, [(0, 0), (0, 1), (1, 0)])

    def test_refused_rows_are_none(self):
        self.check(("kept", DIGIT, ("divides", 4)), 9, [(0,), (4,), (8,)])
        self.check(NOTHING, 9, [])
        self.check(("repeat", ("int", -1, 1), BIT), 9, [(1,), (2, 0), (2, 1)])

    def test_the_empty_row(self):
        self.check(("tuple", ()), 3, [()])
        self.check(("list", BIT, 0, 0), 3, [()])

    def test_by_all_draws(self):
        for generator in SMALL:
            rows = [row for row, _, _ in exact_draws(generator)]
            self.assertEqual(count_rows(generator), len(rows))
            for many in (0, 1, 3, len(rows), len(rows) + 1):
                self.check(generator, many, rows[:many])


class TooManyRows(Checks):
    def check_both(self, path, generator):
        table(generator)
        for many in (0, 1, 10000):
            self.check_too_many(path, first_rows, generator, many)
        self.check_too_many(path, draw_equally, generator, generator)
        self.check_too_many(path, draw_equally, generator, BIT)
        self.check_too_many(path, draw_equally, BIT, generator)
        self.assertIs(make_equally(generator, generator), True)

    def test_five_thousand_and_one_more(self):
        self.assertEqual((count_rows(EXACT), count_rows(BEYOND)), (5000, 5001))
        self.assertEqual(len(first_rows(EXACT, 9999)), 5000)
        self.assertIs(draw_equally(EXACT, EXACT), True)
        self.check_both((), BEYOND)

    def test_five_thousand_of_the_forms_that_join(self):
        zeros = ("turned", ("int", 1, 500), ("times", 0))
        more = ("turned", ("int", 0, 500), ("times", 0))
        self.assertEqual(len(first_rows(("tuple", (zeros, DIGIT)), 9999)), 5000)
        self.check_both((), ("tuple", (more, DIGIT)))
        half = ("turned", ("int", 1, 70), ("times", 0))
        self.assertEqual(len(first_rows(("list", half, 0, 2), 9999)), 4971)
        self.check_both((), ("list", ("turned", ("int", 1, 71), ("times", 0)), 0, 2))
        self.assertEqual(len(first_rows(("repeat", ("int", 1, 2), half), 9999)), 4970)
        self.check_both((), ("repeat", ("int", 1, 2), ("turned", ("int", 1, 71), ("times", 0))))

    def test_in_a_part(self):
        self.check_both((0,), ("kept", BEYOND, ("atmost", -1)))
        self.check_both((0,), ("turned", BEYOND, ("plus", 1)))
        self.check_both((0,), ("list", BEYOND, 0, 0))
        self.check_both((1,), ("repeat", ("int", 7, 9), BEYOND))
        self.check_both((2, 0), ("tuple", (BIT, EXACT, ("kept", BEYOND, ("atmost", -1)), BEYOND)))

    def test_parts_from_the_left_and_ahead_of_the_generator(self):
        self.check_both((), ("tuple", (EXACT, BIT)))
        self.check_both((1,), ("tuple", (EXACT, BEYOND)))
        self.check_both((0,), ("tuple", (("tuple", (EXACT, EXACT)), BEYOND)))

    def test_far_more(self):
        self.check_both((0,), ("list", ("list", ONE_VALUE, 6, 6), 6, 6))
        self.check_both((), ("repeat", ("int", 6, 6), ONE_VALUE))

    def test_too_many_values_of_any_part_are_told_before(self):
        for function, more in [(first_rows, (3,)), (draw_equally, (BIT,))]:
            self.check_too_many((1,), function, ("tuple", (BEYOND, GREAT)), *more)
            self.check_too_many((1, 0), function, ("tuple", (BEYOND, ("list", GREAT, 0, 0))), *more)
            self.check_too_many((), function, ("tuple", (("tuple", (BEYOND, FULL)), BIT)), *more)

    def test_the_first_generator_is_told_before_the_other_one(self):
        self.check_too_many((0,), draw_equally, ("list", BEYOND, 0, 1), BEYOND)
        self.check_too_many((), draw_equally, BEYOND, ("list", BEYOND, 0, 1))
        self.check_too_many((), draw_equally, BEYOND, ("list", GREAT, 0, 1))
        self.check_too_many((), draw_equally, BIT, BEYOND)
        self.check_too_many((0,), make_equally, ("list", GREAT, 0, 1), GREAT)


class Equally(Checks):
    def check(self, generator, other, drawing, making):
        before = repr((generator, other))
        self.assertIs(draw_equally(generator, other), drawing)
        self.assertIs(draw_equally(other, generator), drawing)
        self.assertIs(make_equally(generator, other), making)
        self.assertIs(make_equally(other, generator), making)
        self.assertEqual(repr((generator, other)), before)

    def test_drawing(self):
        self.check(DIGIT, DIGIT, True, True)
        self.check(("turned", DIGIT, ("plus", 5)), ("int", 5, 14), True, True)
        self.check(("tuple", ()), ("list", DIGIT, 0, 0), True, True)
        self.check(("list", BIT, 2, 2), ("tuple", (BIT, BIT)), True, True)
        self.check(("kept", ("int", 0, 4), ("atmost", 1)), BIT, True, True)
        self.check(("turned", ("turned", ("list", BIT, 0, 2), ("reversed",)), ("reversed",)), ("list", BIT, 0, 2),
                   True, True)

    def test_refused_rows_may_be_otherwise(self):
        self.check(("kept", ("int", 0, 9), ("atmost", 3)), ("kept", ("int", 0, 5), ("atmost", 3)), True, True)
        self.check(NOTHING, ("repeat", ("int", 7, 9), DIGIT), True, True)
        self.check(NOTHING, ("kept", ("pick", ("a",)), ("is", "b")), True, True)

    def test_only_making(self):
        self.check(BIT, ("one", (BIT,)), False, True)
        self.check(("int", -1, 1), ("turned", ("int", -1, 1), ("times", -1)), False, True)
        self.check(("pick", ("a", "b")), ("pick", ("b", "a")), False, True)
        self.check(("int", 0, 0), ("turned", BIT, ("times", 0)), False, True)
        self.check(("list", BIT, 0, 2), ("one", (("list", BIT, 0, 2), ("list", BIT, 1, 1))), False, True)
        self.check(("kept", ("int", -1, 1), ("not", ("atmost", -1))), BIT, False, True)

    def test_neither(self):
        self.check(BIT, DIGIT, False, False)
        self.check(BIT, NOTHING, False, False)
        self.check(BIT, ("int", 1, 2), False, False)
        self.check(("pick", ("a", "b")), ("pick", ("a", "c")), False, False)
        self.check(("pick", ("a", "b")), BIT, False, False)
        self.check(("tuple", (BIT,)), BIT, False, False)
        self.check(("list", BIT, 0, 2), ("list", BIT, 0, 1), False, False)
        self.check(("tuple", (BIT, ("pick", ("a",)))), ("tuple", (BIT, ("int", 0, 0))), False, False)

    def test_the_same_rows_and_values_in_another_order(self):
        self.check(("tuple", (BIT, DIGIT)), ("tuple", (DIGIT, BIT)), False, False)
        self.check(("turned", BIT, ("times", -1)), ("int", -1, 0), False, True)

    def test_merged_ones_draw_equally(self):
        old = [
            ("turned", ("int", 0, 9), ("plus", 3)), ("turned", ("int", 900, 995), ("plus", 5)),
            ("turned", ("int", 900, 995), ("plus", 6)), ("turned", ("int", -1000, -990), ("plus", -1)),
            ("kept", ("kept", ("kept", DIGIT, ("atmost", 8)), ("divides", 2)), ("not", ("atmost", 1))),
            ("list", ("turned", ("turned", BIT, ("plus", 1)), ("plus", 2)), 0, 2),
            ("repeat", ("turned", ("int", -3, 3), ("plus", 1)), ("kept", ("kept", BIT, ("atmost", 5)), ("atmost", 0))),
        ]
        for generator in old + SMALL:
            self.check(generator, merged(generator), True, True)


if __name__ == "__main__":
    unittest.main()
