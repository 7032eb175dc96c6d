import unittest

from choicerows.conditions import is_of_kind
from choicerows.drawing import draw, is_exact, value_of
from choicerows.generators import kind_of
from samples import SMALL, all_draws

INT = ("int", -2, 3)
BIT = ("int", 0, 1)
WORD = ("pick", ("b", "a", "c"))
EVEN = ("kept", ("int", 0, 9), ("divides", 2))


class Checks(unittest.TestCase):
    def check(self, generator, row, outcome):
        before = repr((generator, row))
        drawn = draw(generator, row)
        self.assertEqual(drawn, outcome, (generator, row))
        self.assertIs(type(drawn), tuple)
        exact = outcome[0] == "value" and outcome[-1] == len(row)
        self.assertIs(is_exact(generator, row), exact)
        if exact:
            self.assertEqual(value_of(generator, row), outcome[1])
        self.assertEqual(repr((generator, row)), before)

    def check_bound(self, generator, ahead, bound):
        """The choice behind a row has this bound."""
        self.check(generator, ahead, ("short", len(ahead)))
        for choice in range(bound + 1):
            self.assertNotEqual(draw(generator, (*ahead, choice)), ("wrong", len(ahead)))
        for choice in (-1, -2, bound + 1, bound + 2, 10 ** 20, -10 ** 20):
            self.check(generator, (*ahead, choice), ("wrong", len(ahead)))
            self.check(generator, (*ahead, choice, 0, 0), ("wrong", len(ahead)))


class Int(Checks):
    def test_values(self):
        for choice in range(6):
            self.check(INT, (choice,), ("value", choice - 2, 1))
        self.check(("int", -1000, 1000), (2000,), ("value", 1000, 1))

    def test_bounds(self):
        self.check_bound(INT, (), 5)
        self.check_bound(("int", 7, 7), (), 0)
        self.check_bound(("int", -1000, 1000), (), 2000)

    def test_more_behind(self):
        self.check(INT, (4, 9, -1), ("value", 2, 1))


class Pick(Checks):
    def test_values(self):
        for choice, word in enumerate(WORD[1]):
            self.check(WORD, (choice,), ("value", word, 1))

    def test_bounds(self):
        self.check_bound(WORD, (), 2)
        self.check_bound(("pick", ("a",)), (), 0)

    def test_more_behind(self):
        self.check(WORD, (1, 0), ("value", "a", 1))


class Tuple(Checks):
    def test_one_after_the_other(self):
        self.check(("tuple", (INT, WORD, INT)), (0, 2, 5), ("value", (-2, "c", 3), 3))
        self.check(("tuple", (("tuple", (WORD,)), WORD)), (0, 1), ("value", (("b",), "a"), 2))

    def test_the_empty_one(self):
        self.check(("tuple", ()), (), ("value", (), 0))
        self.check(("tuple", ()), (3,), ("value", (), 0))

    def test_bounds(self):
        self.check_bound(("tuple", (INT, WORD)), (), 5)
        self.check_bound(("tuple", (INT, WORD)), (5,), 2)


class List(Checks):
    def test_between_least_and_most(self):
        generator = ("list", INT, 1, 3)
        self.check(generator, (5, 0), ("value", (3,), 2))
        self.check(generator, (5, 1, 0, 0), ("value", (3, -2), 4))
        self.check(generator, (5, 1, 0, 1, 2), ("value", (3, -2, 0), 5))
        self.check(generator, (5, 1, 0, 1, 2, 0), ("value", (3, -2, 0), 5))

    def test_from_none_on(self):
        self.check(("list", WORD, 0, 2), (0,), ("value", (), 1))
        self.check(("list", WORD, 0, 2), (1, 2, 0), ("value", ("c",), 3))
        self.check(("list", WORD, 0, 2), (1, 2, 1, 0), ("value", ("c", "b"), 4))

    def test_a_number_that_is_told(self):
        self.check(("list", WORD, 2, 2), (1, 2), ("value", ("a", "c"), 2))
        self.check(("list", WORD, 0, 0), (), ("value", (), 0))
        self.check(("list", WORD, 0, 0), (1,), ("value", (), 0))
        self.check(("list", BIT, 6, 6), (1, 0, 1, 0, 1, 1), ("value", (1, 0, 1, 0, 1, 1), 6))

    def test_bounds(self):
        generator = ("list", INT, 1, 2)
        self.check_bound(generator, (), 5)
        self.check_bound(generator, (0,), 1)
        self.check_bound(generator, (0, 1), 5)
        self.check_bound(("list", ("int", 4, 4), 0, 1), (), 1)

    def test_lists_in_lists(self):
        self.check(("list", ("list", BIT, 0, 2), 1, 2), (1, 1, 0, 1, 1, 0, 1, 1),
                   ("value", ((1,), (0, 1)), 8))


class One(Checks):
    def test_values(self):
        generator = ("one", (INT, ("int", 50, 60), EVEN))
        self.check(generator, (0, 5), ("value", 3, 2))
        self.check(generator, (1, 5), ("value", 55, 2))
        self.check(generator, (2, 4), ("value", 4, 2))
        self.check(generator, (2, 5), ("refused", 2))

    def test_bounds(self):
        self.check_bound(("one", (INT, EVEN, BIT)), (), 2)
        self.check_bound(("one", (INT, EVEN, BIT)), (0,), 5)
        self.check_bound(("one", (INT, EVEN, BIT)), (2,), 1)
        self.check_bound(("one", (INT,)), (), 0)


class Kept(Checks):
    def test_values_and_refused(self):
        for choice in range(10):
            outcome = ("refused", 1) if choice in (1, 3, 5, 7, 9) else ("value", choice, 1)
            self.check(EVEN, (choice,), outcome)
        self.check(EVEN, (3, 1, 1), ("refused", 1))

    def test_refused_with_all_that_was_used(self):
        generator = ("kept", ("list", INT, 0, 3), ("rising",))
        self.check(generator, (1, 3, 1, 2, 0), ("refused", 5))
        self.check(generator, (1, 2, 1, 3, 0), ("value", (0, 1), 5))
        self.check(generator, (1, 3, 1, 2), ("short", 4))

    def test_bounds(self):
        self.check_bound(EVEN, (), 9)


class Turned(Checks):
    def test_values(self):
        self.check(("turned", INT, ("times", 3)), (0,), ("value", -6, 1))
        self.check(("turned", ("tuple", (INT, WORD)), ("item", 1)), (0, 2), ("value", "c", 2))
        self.check(("turned", ("list", INT, 2, 2), ("sorted",)), (4, 1), ("value", (-1, 2), 2))
        self.check(("turned", ("list", INT, 0, 2), ("length",)), (1, 4, 0), ("value", 1, 3))

    def test_other_outcomes(self):
        generator = ("turned", EVEN, ("plus", 1))
        self.check(generator, (4,), ("value", 5, 1))
        self.check(generator, (5,), ("refused", 1))
        self.check_bound(generator, (), 9)


class Repeat(Checks):
    def test_values(self):
        generator = ("repeat", ("int", 0, 6), WORD)
        self.check(generator, (0,), ("value", (), 1))
        self.check(generator, (0, 2), ("value", (), 1))
        self.check(generator, (1, 2), ("value", ("c",), 2))
        self.check(generator, (6, 0, 1, 2, 0, 1, 2), ("value", ("b", "a", "c", "b", "a", "c"), 7))

    def test_numbers_below_none_and_above_six(self):
        generator = ("repeat", ("int", -1, 7), BIT)
        self.check(generator, (0,), ("refused", 1))
        self.check(generator, (0, 1, 1), ("refused", 1))
        self.check(generator, (1,), ("value", (), 1))
        self.check(generator, (7, 1, 1, 1, 1, 1, 1), ("value", (1,) * 6, 7))
        self.check(generator, (8,), ("refused", 1))
        self.check(generator, (8, 1, 1, 1, 1, 1, 1, 1), ("refused", 1))
        self.check(generator, (9,), ("wrong", 0))

    def test_it_draws_first_one_and_then_the_other_one(self):
        first = ("turned", ("tuple", (BIT, BIT)), ("item", 1))
        self.check(("repeat", first, WORD), (0, 1, 2), ("value", ("c",), 3))
        self.check(("repeat", first, WORD), (1, 0, 2), ("value", (), 2))
        self.check_bound(("repeat", first, WORD), (0, 1), 2)

    def test_other_outcomes(self):
        self.check(("repeat", EVEN, WORD), (3,), ("refused", 1))
        self.check(("repeat", BIT, EVEN), (1, 3), ("refused", 2))
        self.check(("repeat", ("int", 0, 6), EVEN), (3, 2, 10, 1), ("wrong", 2))
        self.check(("repeat", ("int", 0, 6), EVEN), (3, 2, 1, 10), ("refused", 3))


class FirstOutcome(Checks):
    def test_refused_ahead_of_a_wrong_choice_and_behind_one(self):
        generator = ("tuple", (EVEN, INT, EVEN))
        self.check(generator, (1, 9, 1), ("refused", 1))
        self.check(generator, (2, 9, 1), ("wrong", 1))
        self.check(generator, (2, -1), ("wrong", 1))
        self.check(generator, (2, 0, 1), ("refused", 3))
        self.check(generator, (2, 0, 10), ("wrong", 2))
        self.check(generator, (1,), ("refused", 1))

    def test_short_at_the_length_of_the_row(self):
        generator = ("tuple", (EVEN, INT, EVEN))
        self.check(generator, (), ("short", 0))
        self.check(generator, (2,), ("short", 1))
        self.check(generator, (2, 5), ("short", 2))
        self.check(("list", EVEN, 0, 3), (1, 2, 1, 3), ("refused", 4))

    def test_example_of_the_document(self):
        generator = ("list", ("kept", ("int", 0, 4), ("not", ("atmost", 2))), 0, 2)
        self.check(generator, (1, 3, 1, 4, 7), ("value", (3, 4), 4))
        self.check(generator, (1, 3, 1, 0), ("refused", 4))
        self.check(generator, (1, 3), ("short", 2))
        self.check(generator, (1, 9), ("wrong", 1))


class EveryRow(Checks):
    def test_values_are_of_the_kind_of_the_generator(self):
        for generator in SMALL:
            kind = kind_of(generator)
            for row, outcome, _ in all_draws(generator):
                self.assertIn(outcome[0], ("value", "refused"))
                self.assertEqual(outcome[-1], len(row))
                if outcome[0] == "value":
                    self.assertTrue(is_of_kind(outcome[1], kind), (generator, outcome))

    def test_no_exact_row_is_the_beginning_of_another_one(self):
        for generator in SMALL:
            rows = {row for row, outcome, _ in all_draws(generator) if outcome[0] == "value"}
            for row in rows:
                self.assertFalse(any(row[:length] in rows for length in range(len(row))))

    def test_what_stands_behind_changes_nothing(self):
        for generator in SMALL:
            for row, outcome, _ in all_draws(generator):
                self.check(generator, row, outcome)
                self.check(generator, (*row, 0), outcome)
                self.check(generator, (*row, -1, 99), outcome)


if __name__ == "__main__":
    unittest.main()
