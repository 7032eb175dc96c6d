import unittest
from itertools import product

from choicerows.conditions import holds
from choicerows.drawing import draw
from choicerows.errors import GeneratorError
from choicerows.gentext import read_condition, read_generator
from choicerows.rows import is_less
from choicerows.shrinking import candidates, course, is_settled, left_by, step, waste
from choicerows.tables import table
from choicerows.trials import least_failing, says
from samples import all_draws, exact_draws, small_tests

BIT = ("int", 0, 1)
DIGIT = ("int", 0, 9)
GREAT = ("int", -1000, 1000)
BITS = ("list", BIT, 0, 3)
NEVER = ("atmost", -2000)
EXAMPLE = (read_generator("list(int(0, 3), 0, 3)"), read_condition("rising"))


def candidates_as_told(row):
    """The candidates as point [23] tells them, place by place."""
    found = []
    for size in [4, 3, 2, 1]:
        for first in range(len(row)):
            if first + size <= len(row):
                found.append(tuple(choice for at, choice in enumerate(row) if not first <= at < first + size))
    for place, choice in enumerate(row):
        tried = []
        for less in [0, choice // 2, choice - 1]:
            if choice > 0 and less not in tried:
                tried.append(less)
                found.append(tuple(less if at == place else other for at, other in enumerate(row)))
    for place in range(1, len(row)):
        if row[place - 1] > row[place]:
            other = list(row)
            other[place - 1], other[place] = row[place], row[place - 1]
            found.append(tuple(other))
    return found


def step_as_told(test, row):
    """The step as point [24] tells it."""
    for candidate in candidates_as_told(row):
        for used in range(len(candidate) + 1):
            if says(test, candidate[:used]) == "fails" and is_less(candidate[:used], row):
                return candidate[:used]
    return None


class Candidates(unittest.TestCase):
    def check(self, row, wanted):
        found = candidates(row)
        self.assertEqual(found, wanted)
        self.assertIs(type(found), list)
        found.append("more")
        self.assertEqual(candidates(row), wanted)

    def test_short_rows(self):
        self.check((), [])
        self.check((0,), [()])
        self.check((0, 0), [(), (0,), (0,)])

    def test_the_three_lesser_choices_only_once(self):
        self.check((1,), [(), (0,)])
        self.check((2,), [(), (0,), (1,)])
        self.check((3,), [(), (0,), (1,), (2,)])
        self.check((4,), [(), (0,), (2,), (3,)])
        self.check((9,), [(), (0,), (4,), (8,)])

    def test_equal_candidates_of_other_sorts_are_kept(self):
        self.check((1, 1), [(), (1,), (1,), (0, 1), (1, 0)])
        self.check((1, 0), [(), (0,), (1,), (0, 0), (0, 1)])

    def test_exchanges_where_the_first_one_is_greater(self):
        self.check((2, 1), [(), (1,), (2,), (0, 1), (1, 1), (2, 0), (1, 2)])
        self.check((0, 1), [(), (1,), (0,), (0, 0)])

    def test_choices_that_are_not_greater_than_nothing(self):
        self.check((-1,), [()])
        self.check((0, -3), [(), (-3,), (0,), (-3, 0)])

    def test_a_long_row(self):
        self.check((0, 3, 0, 0, 5), [
            (5,), (0,),
            (0, 5), (0, 5), (0, 3),
            (0, 0, 5), (0, 0, 5), (0, 3, 5), (0, 3, 0),
            (3, 0, 0, 5), (0, 0, 0, 5), (0, 3, 0, 5), (0, 3, 0, 5), (0, 3, 0, 0),
            (0, 0, 0, 0, 5), (0, 1, 0, 0, 5), (0, 2, 0, 0, 5),
            (0, 3, 0, 0, 0), (0, 3, 0, 0, 2), (0, 3, 0, 0, 4),
            (0, 0, 3, 0, 5),
        ])

    def test_example_of_the_document(self):
        self.check((3, 1), [(), (1,), (3,), (0, 1), (1, 1), (2, 1), (3, 0), (1, 3)])

    def test_all_small_rows(self):
        for size in range(5):
            for row in product([-1, 0, 1, 3], repeat=size):
                self.check(row, candidates_as_told(row))
        for row in [tuple(range(9)), tuple(range(9, 0, -1)), (7, 7, 0, 100, 99, 99, 1), (1000,) * 6]:
            self.check(row, candidates_as_told(row))

    def test_each_is_less_where_no_choice_is_negative(self):
        for row in product([0, 1, 2, 5], repeat=4):
            self.assertTrue(all(is_less(candidate, row) for candidate in candidates(row)))


class Left(unittest.TestCase):
    def check(self, generator, row, wanted):
        before = repr((generator, row))
        self.assertEqual(left_by(generator, row), wanted, (generator, row))
        self.assertEqual(repr((generator, row)), before)

    def test_rows(self):
        self.check(DIGIT, (4,), (4,))
        self.check(DIGIT, (4, 5, 6), (4,))
        self.check(DIGIT, (), None)
        self.check(DIGIT, (10, 1), None)
        self.check(BITS, (0, 1, 1), (0,))
        self.check(BITS, (1, 1), None)
        self.check(BITS, (1, 1, 0), (1, 1, 0))
        self.check(("tuple", ()), (), ())
        self.check(("tuple", ()), (3, 4), ())
        self.check(("kept", DIGIT, ("divides", 2)), (3, 2), None)
        self.check(("kept", DIGIT, ("divides", 2)), (2, 3), (2,))

    def test_by_all_draws(self):
        for generator in {test[0]: True for test in small_tests()}:
            for row, outcome, _ in all_draws(generator):
                wanted = row if outcome[0] == "value" else None
                self.check(generator, row, wanted)
                self.check(generator, row + (0, 7), wanted)
                if row:
                    self.check(generator, row[:-1], None)


class Steps(unittest.TestCase):
    def check(self, test, row, wanted):
        before = repr((test, row))
        self.assertEqual(step(test, row), wanted, (test, row))
        self.assertIs(is_settled(test, row), wanted is None)
        self.assertEqual(repr((test, row)), before)

    def test_ordinary_ones(self):
        test = (DIGIT, ("atmost", 3))
        self.check(test, (9,), (4,))
        self.check(test, (7,), (6,))
        self.check(test, (5,), (4,))
        self.check(test, (4,), None)

    def test_what_is_left_may_be_shorter_than_the_candidate(self):
        always = (("list", BIT, 0, 3), ("size", ("atmost", -1)))
        self.check(always, (1, 0, 1, 1, 1, 1), (0,))
        self.check(always, (1, 0, 0), (0,))
        self.check((("list", BIT, 0, 3), ("size", ("atmost", 0))), (1, 0, 1, 1, 1, 1), (1, 0, 0))

    def test_stretches_before_lesser_choices_before_exchanges(self):
        test = (("list", DIGIT, 0, 3), ("sum", ("atmost", 4)))
        self.check(test, (1, 9, 1, 9, 0), (1, 9, 0))
        self.check(test, (1, 9, 0), (1, 8, 0))
        self.check(test, (1, 5, 0), None)
        pair = (("tuple", (DIGIT, DIGIT)), ("not", ("and", ("item", 0, ("atmost", 5)), ("item", 1, ("atmost", 5)))))
        self.check(pair, (3, 2), (0, 2))
        swap = (("tuple", (("int", 1, 3), ("int", 1, 3))), ("or", ("item", 0, ("divides", 3)),
                                                            ("item", 1, ("not", ("divides", 3)))))
        self.check(swap, (1, 2), (0, 2))
        self.check(swap, (0, 2), None)

    def test_by_an_exchange_alone(self):
        same = ("or", ("and", ("item", 0, ("divides", 2)), ("item", 1, ("divides", 2))),
                ("and", ("item", 0, ("not", ("divides", 2))), ("item", 1, ("not", ("divides", 2)))))
        test = (("tuple", (BIT, BIT)), same)
        self.check(test, (1, 0), (0, 1))
        self.check(test, (0, 1), None)

    def test_refused_and_passing_candidates_are_passed_over(self):
        test = (("kept", DIGIT, ("not", ("divides", 4))), ("or", ("atmost", 2), ("divides", 2)))
        self.check(test, (9,), None)
        self.check(test, (7,), (3,))
        self.check(test, (5,), None)
        self.check(test, (3,), None)

    def test_as_told(self):
        for test in small_tests():
            for row, value, _ in exact_draws(test[0]):
                if not holds(test[1], value):
                    self.check(test, row, step_as_told(test, row))

    def test_no_table_is_needed(self):
        test = (("list", GREAT, 0, 6), ("every", ("atmost", 499)))
        self.check(test, (1, 2000, 1, 1900, 0), (1, 1900, 0))
        self.assertEqual(course(test, (1, 2000, 1, 1900, 0))[-1], (1, 1500, 0))


class Courses(unittest.TestCase):
    def check(self, test, row, wanted):
        before = repr((test, row))
        found = course(test, row)
        self.assertEqual(found, wanted)
        self.assertIs(type(found), list)
        found.append("more")
        self.assertEqual(course(test, row), wanted)
        self.assertEqual(repr((test, row)), before)

    def test_ordinary_ones(self):
        test = (DIGIT, ("atmost", 3))
        self.check(test, (9,), [(9,), (4,)])
        self.check(test, (7,), [(7,), (6,), (5,), (4,)])
        self.check(test, (4,), [(4,)])

    def test_the_empty_row(self):
        self.check((("list", BIT, 0, 0), ("not", ("rising",))), (), [()])

    def test_example_of_the_document(self):
        self.check(EXAMPLE, (1, 3, 1, 2, 1, 1),
                   [(1, 3, 1, 2, 1, 1), (1, 0, 1, 2, 1, 1), (1, 0, 1, 2, 1, 0), (1, 0, 1, 1, 1, 0)])

    def test_all_small_ones(self):
        for test in small_tests():
            failing = [row for row, value, _ in exact_draws(test[0]) if not holds(test[1], value)]
            for row in failing:
                found = course(test, row)
                self.assertEqual(found[0], row)
                self.assertTrue(is_settled(test, found[-1]))
                for at in range(1, len(found)):
                    self.assertEqual(step(test, found[at - 1]), found[at])
                    self.assertTrue(is_less(found[at], found[at - 1]))
                self.assertTrue(all(says(test, each) == "fails" for each in found))
                self.assertFalse(is_less(found[-1], least_failing(test)))

    def test_the_least_failing_row_is_settled(self):
        for test in small_tests():
            row = least_failing(test)
            if row is not None:
                self.assertIs(is_settled(test, row), True)


class Waste(unittest.TestCase):
    def check(self, test, wanted):
        before = repr(test)
        found = waste(test)
        self.assertEqual(found, wanted)
        self.assertIs(type(found), list)
        found.append("more")
        self.assertEqual(waste(test), wanted)
        self.assertEqual(repr(test), before)

    def test_where_shrinking_stays(self):
        self.check(EXAMPLE, [(1, 0, 1, 1, 1, 0)])
        self.check((DIGIT, ("or", ("atmost", 2), ("divides", 2))), [(5,), (9,)])

    def test_none(self):
        self.check((DIGIT, ("atmost", 3)), [])
        self.check((DIGIT, ("atmost", 9)), [])
        self.check((DIGIT, NEVER), [])
        self.check((("kept", BIT, NEVER), NEVER), [])

    def test_only_rows_of_the_table(self):
        # The row (1, 0) draws 7 and is settled, but the table has (0, 4) for 7, which is not.
        test = (("one", (("int", 3, 7), ("int", 7, 7))), ("atmost", 5))
        self.assertEqual((least_failing(test), says(test, (1, 0))), ((0, 3), "fails"))
        self.assertEqual([is_settled(test, row) for row in [(0, 3), (0, 4), (1, 0)]], [True, False, True])
        self.check(test, [])

    def test_as_told(self):
        some = 0
        for test in small_tests():
            rows = [row for value, _, row in table(test[0])
                    if not holds(test[1], value) and step_as_told(test, row) is None]
            wanted = [row for row in rows if row != least_failing(test)]
            self.check(test, wanted)
            some += len(wanted)
        self.assertGreater(some, 10)

    def test_too_many(self):
        for path, generator, condition in [((), GREAT, NEVER), ((0,), ("list", GREAT, 0, 0), ("rising",)),
                                           ((1,), ("repeat", BIT, GREAT), ("rising",))]:
            with self.assertRaises(GeneratorError) as held:
                waste((generator, condition))
            self.assertEqual((held.exception.what, held.exception.path), ("too many", path))
        self.check((("int", -999, 1000), ("not", ("atmost", -999))), [])


if __name__ == "__main__":
    unittest.main()
