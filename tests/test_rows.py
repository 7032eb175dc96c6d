import unittest
from itertools import permutations, product

from choicerows.rows import is_less, is_prefix_free, sorted_rows
from samples import SMALL, exact_draws


def begins(row, other):
    """Whether a row is the beginning of another one, choice by choice."""
    return len(row) <= len(other) and all(choice == there for choice, there in zip(row, other))


class Order(unittest.TestCase):
    IN_ORDER = [(), (-5,), (0,), (1,), (9,), (10,), (0, 0), (0, 1), (0, 10), (1, 0), (2, -1), (2, 0), (0, 0, 0),
                (0, 0, 1), (0, 1, 0), (1, 0, 0), (10 ** 20, 0, 0), (0, 0, 0, 0)]

    def test_by_length_and_then_as_tuples(self):
        for at, row in enumerate(self.IN_ORDER):
            for place, other in enumerate(self.IN_ORDER):
                self.assertIs(is_less(row, other), at < place, (row, other))

    def test_a_shorter_row_is_less_whatever_it_holds(self):
        self.assertIs(is_less((9, 9), (0, 0, 0)), True)
        self.assertIs(is_less((0, 0, 0), (9, 9)), False)

    def test_no_row_is_less_than_itself(self):
        for row in [(), (0,), (1, 2)]:
            self.assertIs(is_less(row, row), False)

    def test_sorted_rows(self):
        for rows in [self.IN_ORDER[::-1], self.IN_ORDER[9:] + self.IN_ORDER[:9], self.IN_ORDER]:
            before = list(rows)
            found = sorted_rows(rows)
            self.assertEqual(found, self.IN_ORDER)
            self.assertIs(type(found), list)
            self.assertIsNot(found, rows)
            self.assertEqual(rows, before)
        for rows in permutations([(1,), (0, 0), (), (0,)]):
            self.assertEqual(sorted_rows(list(rows)), [(), (0,), (1,), (0, 0)])

    def test_sorted_rows_keep_equal_ones(self):
        self.assertEqual(sorted_rows([(1,), (0,), (1,), ()]), [(), (0,), (1,), (1,)])
        self.assertEqual(sorted_rows([]), [])


class PrefixFree(unittest.TestCase):
    def check(self, rows, wanted):
        before = list(rows)
        self.assertIs(is_prefix_free(rows), wanted, rows)
        self.assertIs(is_prefix_free(rows[::-1]), wanted, rows)
        self.assertEqual(rows, before)

    def test_rows(self):
        self.check([], True)
        self.check([()], True)
        self.check([(0,), (1, 0), (1, 1)], True)
        self.check([(0, 1), (0, 2), (1,)], True)
        self.check([(0, 1), (1, 0, 1)], True)
        self.check([(1,), (1, 0)], False)
        self.check([(), (5,)], False)
        self.check([(1, 2), (1, 2, 0, 7), (1, 3)], False)

    def test_equal_rows(self):
        self.check([(1, 2), (1, 2)], False)
        self.check([(), ()], False)
        self.check([(3,), (1, 2), (4,), (1, 2)], False)

    def test_with_others_in_between(self):
        self.check([(1,), (0, 5), (2, 0), (3,), (1, 9)], False)
        self.check([(1, 0), (1, 0, 5), (1, -1), (1, 1)], False)
        self.check([(1, 0), (1,), (0,), (1, -7)], False)

    def test_against_all_pairs(self):
        rows = [row for size in range(3) for row in product(range(-1, 2), repeat=size)]
        for taken in product(rows, repeat=3):
            wanted = not any(at != place and begins(taken[at], taken[place]) for at in range(3) for place in range(3))
            self.assertIs(is_prefix_free(list(taken)), wanted, taken)

    def test_exact_rows_of_generators(self):
        for generator in SMALL:
            rows = [row for row, _, _ in exact_draws(generator)]
            self.check(rows, True)
            self.assertEqual(sorted_rows(rows[::-1]), rows)


if __name__ == "__main__":
    unittest.main()
