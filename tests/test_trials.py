import unittest
from fractions import Fraction
from math import gcd

from choicerows.conditions import holds
from choicerows.errors import GeneratorError
from choicerows.gentext import read_condition, read_generator
from choicerows.tables import table
from choicerows.trials import failing_chance, failures, is_test, least_failing, says, told_longer
from samples import all_draws, exact_draws, small_tests

BIT = ("int", 0, 1)
DIGIT = ("int", 0, 9)
BITS = ("list", BIT, 0, 3)
GREAT = ("int", -1000, 1000)
FULL = ("int", -999, 1000)
NOTHING = ("kept", BIT, ("atmost", -1))


class Tests(unittest.TestCase):
    def check(self, generator, condition, wanted):
        before = repr((generator, condition))
        self.assertIs(is_test(generator, condition), wanted, (generator, condition))
        self.assertEqual(repr((generator, condition)), before)

    def test_right_ones(self):
        self.check(DIGIT, ("atmost", 3), True)
        self.check(BITS, ("rising",), True)
        self.check(("pick", ("a", "b")), ("is", "c"), True)
        self.check(("tuple", ()), ("not", ("item", 0, ("atmost", 1))), False)
        self.check(("tuple", (DIGIT,)), ("not", ("item", 0, ("atmost", 1))), True)
        self.check(NOTHING, ("divides", 100), True)

    def test_many_values_are_no_fault(self):
        self.check(GREAT, ("atmost", 3), True)
        self.check(("list", GREAT, 0, 6), ("sum", ("atmost", 3)), True)

    def test_generators_with_faults(self):
        for generator in [("int", 1, 0), ("int", 0, 1001), ("kept", DIGIT, ("rising",)), ("turned", BITS, ("plus", 1)),
                          ("one", (DIGIT, GREAT, ("int", 5, 4)))]:
            self.check(generator, ("atmost", 3), False)
        self.check(("pick", ()), ("is", "a"), False)
        self.check(("list", BIT, 3, 2), ("rising",), False)
        self.check(("list", BIT, 0, 7), ("rising",), False)
        self.check(("tuple", (BIT,) * 5), ("item", 0, ("atmost", 1)), False)
        self.check(("repeat", BITS, BIT), ("rising",), False)

    def test_conditions_that_do_not_fit(self):
        self.check(DIGIT, ("rising",), False)
        self.check(DIGIT, ("is", "a"), False)
        self.check(DIGIT, ("divides", 0), False)
        self.check(DIGIT, ("divides", 101), False)
        self.check(BITS, ("atmost", 3), False)
        self.check(BITS, ("every", ("is", "a")), False)
        self.check(("pick", ("a",)), ("is", ""), False)
        self.check(("tuple", (BIT,)), ("item", 1, ("atmost", 1)), False)


class Rows(unittest.TestCase):
    def check(self, test, row, said, longer):
        before = repr((test, row))
        self.assertEqual((says(test, row), told_longer(test, row)), (said, longer), (test, row))
        self.assertEqual(repr((test, row)), before)

    def test_int(self):
        test = (DIGIT, ("atmost", 3))
        self.check(test, (3,), "passes", "passes")
        self.check(test, (4,), "fails", "fails")
        self.check(test, (4, 0), "nothing", "fails")
        self.check(test, (3, 9, -1), "nothing", "passes")
        self.check(test, (), "nothing", "nothing")
        self.check(test, (10,), "nothing", "nothing")
        self.check(test, (-1, 3), "nothing", "nothing")

    def test_refused_rows(self):
        test = (("kept", DIGIT, ("divides", 2)), ("atmost", 3))
        self.check(test, (2,), "passes", "passes")
        self.check(test, (4,), "fails", "fails")
        self.check(test, (5,), "nothing", "nothing")
        self.check(test, (5, 4), "nothing", "nothing")
        self.check(test, (4, 5), "nothing", "fails")

    def test_the_empty_row(self):
        self.check((("list", BIT, 0, 0), ("rising",)), (), "passes", "passes")
        self.check((("list", BIT, 0, 0), ("not", ("rising",))), (), "fails", "fails")
        self.check((("list", BIT, 0, 0), ("not", ("rising",))), (0,), "nothing", "fails")

    def test_example_of_the_document(self):
        test = (read_generator("list(int(0, 3), 0, 3)"), read_condition("rising"))
        self.assertEqual((says(test, (1, 2, 1, 1, 0)), says(test, (1, 2, 0)), says(test, (1, 2)), least_failing(test)),
                         ("fails", "passes", "nothing", (1, 1, 1, 0, 0)))

    def test_by_all_draws(self):
        for test in small_tests():
            for row, outcome, _ in all_draws(test[0]):
                said = "nothing"
                if outcome[0] == "value":
                    said = "passes" if holds(test[1], outcome[1]) else "fails"
                self.check(test, row, said, said)
                self.check(test, row + (0,), "nothing", said)
                self.check(test, row + (99, -1), "nothing", said)
                if row:
                    self.check(test, row[:-1], "nothing", "nothing")
                    self.check(test, row[:-1] + (-1,), "nothing", "nothing")


class Failures(unittest.TestCase):
    def check(self, test, row, values, chance):
        before = repr(test)
        self.assertEqual(least_failing(test), row, test)
        self.assertEqual(failures(test), values, test)
        self.assertIs(type(failures(test)), list)
        self.assertEqual(failing_chance(test), chance, test)
        self.assertIs(type(failing_chance(test)), tuple)
        self.assertEqual(repr(test), before)

    def test_ordinary_ones(self):
        self.check((DIGIT, ("atmost", 7)), (8,), [8, 9], (1, 5))
        self.check((("pick", ("b", "a", "c")), ("is", "a")), (0,), ["b", "c"], (2, 3))
        self.check((("list", ("int", 0, 1), 0, 2), ("rising",)), (1, 1, 1, 0), [(1, 0)], (1, 16))
        self.check((("tuple", (BIT, BIT)), ("not", ("item", 1, ("divides", 1)))), (0, 0),
                   [(0, 0), (0, 1), (1, 0), (1, 1)], (1, 1))

    def test_none_fails(self):
        self.check((DIGIT, ("atmost", 9)), None, [], (0, 1))
        self.check((NOTHING, ("atmost", -9)), None, [], (0, 1))
        self.check((("list", NOTHING, 0, 3), ("different",)), None, [], (0, 1))

    def test_refused_draws_do_not_fail(self):
        self.check((("kept", DIGIT, ("divides", 3)), ("atmost", 3)), (6,), [6, 9], (1, 5))

    def test_equal_values_count_together(self):
        generator = ("one", (("turned", ("tuple", (BIT, BIT)), ("item", 0)), BIT))
        self.check((generator, ("atmost", 0)), (1, 1), [1], (1, 2))

    def test_the_order_of_the_table(self):
        self.check((("turned", DIGIT, ("times", -1)), ("not", ("atmost", -7))), (7,), [-7, -8, -9], (3, 10))

    def test_by_all_draws(self):
        for test in small_tests():
            failing = [(row, value, chance) for row, value, chance in exact_draws(test[0])
                       if not holds(test[1], value)]
            total = sum([chance for _, _, chance in failing], Fraction(0))
            values = []
            for _, value, _ in failing:
                if value not in values:
                    values.append(value)
            self.check(test, failing[0][0] if failing else None, values, (total.numerator, total.denominator))

    def test_the_row_of_the_first_triple_that_fails(self):
        for test in small_tests():
            rows = [row for value, _, row in table(test[0]) if not holds(test[1], value)]
            self.assertEqual(least_failing(test), rows[0] if rows else None)

    def test_chances_in_lowest_terms(self):
        for test in small_tests():
            top, bottom = failing_chance(test)
            self.assertGreaterEqual(bottom, 1)
            self.assertEqual(gcd(top, bottom), 1)

    def test_lists_are_new(self):
        test = (DIGIT, ("atmost", 7))
        found = failures(test)
        found.append(10)
        self.assertEqual(failures(test), [8, 9])


class TooMany(unittest.TestCase):
    def check(self, what, path, test):
        for function in (least_failing, failures, failing_chance):
            with self.assertRaises(GeneratorError) as held:
                function(test)
            self.assertEqual((held.exception.what, held.exception.path), (what, path))

    def test_values(self):
        self.check("too many", (), (GREAT, ("atmost", 3)))
        self.check("too many", (0,), (("list", GREAT, 0, 0), ("rising",)))
        self.check("too many", (1,), (("tuple", (BIT, GREAT, GREAT)), ("item", 0, ("atmost", 0))))
        self.check("too many", (), (("list", ("int", 0, 99), 0, 2), ("size", ("atmost", 9))))

    def test_two_thousand_values_are_not_too_many(self):
        test = (FULL, ("atmost", 998))
        self.assertEqual((least_failing(test), failures(test), failing_chance(test)),
                         ((1998,), [999, 1000], (1, 1000)))

    def test_many_rows_are_not_too_many(self):
        generator = ("list", ("turned", FULL, ("times", 0)), 6, 6)
        test = (generator, ("not", ("size", ("atmost", 6))))
        self.assertEqual((least_failing(test), failures(test), failing_chance(test)),
                         ((0,) * 6, [(0,) * 6], (1, 1)))

    def test_what_rows_say_needs_no_table(self):
        test = (("list", GREAT, 0, 6), ("rising",))
        self.assertEqual(says(test, (1, 2000, 1, 0, 0)), "fails")
        self.assertEqual(told_longer(test, (1, 0, 1, 2000, 0, 7)), "passes")


if __name__ == "__main__":
    unittest.main()
