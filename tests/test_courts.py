import unittest

from choicerows.conditions import holds
from choicerows.courts import about_machine, about_row, about_test, judge, judge_all
from choicerows.errors import GeneratorError, MachineError
from choicerows.gentext import read_condition, read_generator
from choicerows.ledgers import ledger
from choicerows.machines import least_run, machine
from choicerows.shrinking import course, is_settled
from choicerows.tables import chance, table
from choicerows.trials import least_failing, says
from samples import SMALL, all_draws, exact_draws, exact_runs, small_tests

BIT = ("int", 0, 1)
DIGIT = ("int", 0, 9)
GREAT = ("int", -1000, 1000)
SMALL_ONES = ("atmost", 3)
ALWAYS = ("atmost", 10 ** 6)
TEST = (DIGIT, SMALL_ONES)
RIGHT = (DIGIT, ALWAYS)
DIGITS = ledger(DIGIT)
FALLING = (read_generator("list(int(0, 3), 0, 3)"), read_condition("rising"))
PUT = ("put", ("atmost", 3), ("int", 1, 2), "add")
GET = ("get", ("not", ("atmost", 0)), ("int", 1, 3), "take")
MACHINE = machine(0, [PUT, GET], 2)
NOT_BELOW = ("not", ("atmost", -1))


class Checks(unittest.TestCase):
    def check(self, wanted, *claim):
        before = repr(claim)
        self.assertIs(judge(claim), wanted, claim)
        self.assertEqual(judge_all([claim]), [] if wanted else [0])
        self.assertEqual(repr(claim), before)

    def check_about(self, found, wanted):
        self.assertEqual(found, wanted)
        self.assertIs(type(found), list)
        for claim in found:
            self.assertIs(type(claim), tuple)
            self.check(True, *claim)


class Fails(Checks):
    def test_rows(self):
        self.check(True, "fails", TEST, (4,))
        self.check(True, "fails", TEST, (9,))
        for row in [(3,), (), (10,), (-1,), (4, 0), (3, 9)]:
            self.check(False, "fails", TEST, row)
        self.check(False, "fails", (("kept", DIGIT, SMALL_ONES), SMALL_ONES), (4,))
        self.check(True, "fails", (("list", BIT, 0, 0), ("not", ("rising",))), ())

    def test_no_table_is_needed(self):
        test = (("list", GREAT, 0, 6), ("rising",))
        self.check(True, "fails", test, (1, 2000, 1, 0, 0))
        self.check(False, "fails", test, (1, 0, 1, 2000, 0))


class Least(Checks):
    def test_ordinary_ones(self):
        self.check(True, "least", TEST, (4,), DIGITS)
        for row in [(3,), (5,), (), (4, 0), (0,)]:
            self.check(False, "least", TEST, row, DIGITS)

    def test_none_fails(self):
        for row in [(), (0,), (9,)]:
            self.check(False, "least", RIGHT, row, DIGITS)
        nothing = ("kept", BIT, ("atmost", -1))
        self.check(False, "least", (nothing, ("atmost", -1)), (), ledger(nothing))

    def test_ledgers_that_are_not_right(self):
        triples, parts = DIGITS
        self.check(False, "least", TEST, (4,), (triples[:-1], parts))
        self.check(False, "least", TEST, (4,), (triples[4:], parts))
        self.check(False, "least", TEST, (5,), (triples[:4] + triples[5:], parts))
        self.check(False, "least", TEST, (4,), (triples, (DIGITS,)))
        self.check(False, "least", TEST, (4,), ledger(("int", 0, 8)))
        self.check(False, "least", TEST, (4,), ((), ()))
        self.check(False, "least", TEST, (7,), (((7, 1, (7,)),), ()))

    def test_a_wrong_part(self):
        generator = ("kept", DIGIT, ("not", ("divides", 4)))
        triples, (part,) = ledger(generator)
        self.check(True, "least", (generator, SMALL_ONES), (5,), (triples, (part,)))
        self.check(False, "least", (generator, SMALL_ONES), (5,), (triples, ((part[0][1:], ()),)))

    def test_more_than_two_thousand_values(self):
        great = (tuple((value, 1, (value + 1000,)) for value in range(-1000, 1001)), ())
        self.check(True, "least", (GREAT, ("atmost", 998)), (1999,), great)
        self.check(False, "least", (GREAT, ("atmost", 998)), (2000,), great)
        self.check(True, "never", (GREAT, ("atmost", 1000)), great)
        self.check(False, "never", (GREAT, ("atmost", 999)), great)

    def test_against_all_draws(self):
        for test in small_tests():
            told = ledger(test[0])
            least = least_failing(test)
            for row, _, _ in all_draws(test[0])[:12]:
                self.check(row == least, "least", test, row, told)
            self.check(least is None, "never", test, told)


class Never(Checks):
    def test_ordinary_ones(self):
        self.check(True, "never", RIGHT, DIGITS)
        self.check(False, "never", TEST, DIGITS)
        self.check(False, "never", (DIGIT, ("atmost", 8)), DIGITS)
        self.check(False, "never", (DIGIT, ("not", ("divides", 4))), DIGITS)

    def test_ledgers_that_are_not_right(self):
        triples, parts = DIGITS
        self.check(False, "never", RIGHT, ((), ()))
        self.check(False, "never", RIGHT, (triples[:-1], parts))
        self.check(False, "never", (DIGIT, ("atmost", 8)), (triples[:-1], parts))
        self.check(False, "never", RIGHT, (triples, (DIGITS,)))
        self.check(False, "never", RIGHT, ledger(("int", 1, 9)))


class Settled(Checks):
    def test_ordinary_ones(self):
        self.check(True, "settled", TEST, (4,))
        self.check(False, "settled", TEST, (5,))
        self.check(True, "settled", FALLING, (1, 0, 1, 1, 1, 0))
        self.check(True, "settled", FALLING, (1, 1, 1, 0, 0))
        self.check(False, "settled", FALLING, (1, 3, 1, 2, 1, 1))

    def test_rows_that_do_not_fail(self):
        for row in [(3,), (0,), (), (10,), (-1,), (4, 0), (-4,)]:
            self.check(False, "settled", TEST, row)
        self.check(False, "settled", RIGHT, (0,))

    def test_against_all_draws(self):
        for test in small_tests():
            for row, _, _ in all_draws(test[0]):
                self.check(says(test, row) == "fails" and is_settled(test, row), "settled", test, row)


class Courses(Checks):
    def test_ordinary_ones(self):
        self.check(True, "course", TEST, [(7,), (6,), (5,), (4,)])
        self.check(True, "course", TEST, [(4,)])
        self.check(True, "course", FALLING, [(1, 3, 1, 2, 1, 1), (1, 0, 1, 2, 1, 1), (1, 0, 1, 2, 1, 0), (1, 0, 1, 1, 1, 0)])

    def test_rows_in_a_tuple(self):
        self.check(True, "course", TEST, ((7,), (6,), (5,), (4,)))
        self.check(False, "course", TEST, ((7,), (6,), (5,)))

    def test_a_first_row_that_does_not_fail(self):
        # The rows behind the first one would be those to which steps go.
        self.check(False, "course", TEST, [(10,), (5,), (4,)])
        self.check(False, "course", TEST, [(4, 0), (4,)])

    def test_other_rows(self):
        for rows in [[], [(7,)], [(7,), (4,)], [(7,), (6,), (5,)], [(6,), (7,), (5,), (4,)], [(7,), (6,), (5,), (4,), (4,)],
                     [(7,), (6,), (5,), (4,), (3,)], [(3,)], [(3,), (2,)], [()], [(10,)], [(7, 0), (6,), (5,), (4,)]]:
            self.check(False, "course", TEST, rows)


class Runs(Checks):
    def test_ordinary_ones(self):
        self.check(True, "run", MACHINE, NOT_BELOW, (1, 0, 0, 1, 1, 2))
        self.check(True, "run", MACHINE, NOT_BELOW, (1, 0, 0, 1, 1, 1))
        for row in [(1, 0, 0, 1, 1, 0), (0,), (), (1,), (1, 0, 0, 1, 1, 3), (1, 0, 0, 1, 1, 1, 0), (2,)]:
            self.check(False, "run", MACHINE, NOT_BELOW, row)

    def test_against_all_runs(self):
        for row, value in exact_runs(MACHINE):
            wanted = any(not holds(("atmost", 2), state) for _, _, state in value)
            self.check(wanted, "run", MACHINE, ("atmost", 2), row)
            self.check(True, "run", MACHINE, ("atmost", -1), row)


class Chances(Checks):
    def test_ordinary_ones(self):
        self.check(True, "chance", DIGIT, 4, (1, 10))
        self.check(True, "chance", DIGIT, 10, (0, 1))
        self.check(True, "chance", ("int", 5, 5), 5, (1, 1))
        for number in [(1, 9), (0, 1), (2, 20), (-1, -10), (10, 1), (1, 1)]:
            self.check(False, "chance", DIGIT, 4, number)
        self.check(False, "chance", DIGIT, 10, (0, 2))
        self.check(False, "chance", DIGIT, "a", (1, 10))

    def test_small_ones(self):
        for generator in SMALL:
            for value, _, _ in table(generator):
                top, bottom = chance(generator, value)
                self.check(True, "chance", generator, value, (top, bottom))
                self.check(False, "chance", generator, value, (top, bottom + 1))
                self.check(False, "chance", generator, value, (top + bottom, bottom))


class AboutTests(Checks):
    def test_one_that_fails(self):
        self.check_about(about_test(TEST), [("least", TEST, (4,), DIGITS), ("fails", TEST, (4,))])
        self.check_about(about_test(FALLING), [("least", FALLING, (1, 1, 1, 0, 0), ledger(FALLING[0])),
                                               ("fails", FALLING, (1, 1, 1, 0, 0))])

    def test_one_that_never_fails(self):
        self.check_about(about_test(RIGHT), [("never", RIGHT, DIGITS)])
        nothing = (("kept", BIT, ("atmost", -1)), ("atmost", -1))
        self.check_about(about_test(nothing), [("never", nothing, ledger(nothing[0]))])

    def test_small_ones(self):
        for test in small_tests():
            before = repr(test)
            row = least_failing(test)
            wanted = [("never", test, ledger(test[0]))]
            if row is not None:
                wanted = [("least", test, row, ledger(test[0])), ("fails", test, row)]
            self.check_about(about_test(test), wanted)
            self.assertEqual(repr(test), before)

    def test_too_many(self):
        for path, test in [((), (GREAT, SMALL_ONES)), ((0,), (("list", GREAT, 0, 0), ("rising",)))]:
            with self.assertRaises(GeneratorError) as held:
                about_test(test)
            self.assertEqual((held.exception.what, held.exception.path), ("too many", path))

    def test_lists_are_new(self):
        found = about_test(TEST)
        found.clear()
        self.assertEqual(len(about_test(TEST)), 2)


class AboutRows(Checks):
    def test_ordinary_ones(self):
        self.check_about(about_row(TEST, (7,)), [("fails", TEST, (7,)), ("course", TEST, [(7,), (6,), (5,), (4,)]),
                                                 ("settled", TEST, (4,))])
        self.check_about(about_row(TEST, (4,)), [("fails", TEST, (4,)), ("course", TEST, [(4,)]), ("settled", TEST, (4,))])

    def test_small_ones(self):
        for test in small_tests():
            for row, value, _ in exact_draws(test[0]):
                if not holds(test[1], value):
                    rows = course(test, row)
                    self.check_about(about_row(test, row), [("fails", test, row), ("course", test, rows),
                                                            ("settled", test, rows[-1])])

    def test_lists_are_new(self):
        found = about_row(TEST, (7,))
        found[1][2].clear()
        found.clear()
        self.assertEqual(about_row(TEST, (7,))[1], ("course", TEST, [(7,), (6,), (5,), (4,)]))


class AboutMachines(Checks):
    def test_ordinary_ones(self):
        claim = about_machine(MACHINE, NOT_BELOW)
        self.assertEqual(claim, ("run", MACHINE, NOT_BELOW, (1, 0, 0, 1, 1, 1)))
        self.check(True, *claim)
        self.assertIs(about_machine(MACHINE, ("atmost", 4)), None)
        self.assertEqual(about_machine(machine(5, [PUT], 0), ("atmost", 4))[3], ())

    def test_the_least_run(self):
        for invariant in [("atmost", number) for number in range(-3, 5)] + [("divides", 2), ("not", ("divides", 3))]:
            row = least_run(MACHINE, invariant)
            claim = about_machine(MACHINE, invariant)
            self.assertEqual(claim, None if row is None else ("run", MACHINE, invariant, row))
            if claim is not None:
                self.check(True, *claim)

    def test_too_many(self):
        with self.assertRaises(GeneratorError) as held:
            about_machine(machine(0, [("a", ALWAYS, GREAT, "add")], 1), ALWAYS)
        self.assertEqual((held.exception.what, held.exception.path), ("too many", ()))
        with self.assertRaises(MachineError) as held:
            about_machine(machine(-1000, [("a", ALWAYS, ("int", -999, 1000), "set")], 1), ALWAYS)
        self.assertEqual((held.exception.what, held.exception.place), ("too many", -1))


class JudgeAll(Checks):
    def test_those_that_do_not_hold(self):
        claims = [("fails", TEST, (3,)), ("fails", TEST, (4,)), ("never", TEST, DIGITS), ("never", RIGHT, DIGITS),
                  ("course", TEST, []), ("chance", DIGIT, 4, (1, 10)), ("run", MACHINE, NOT_BELOW, (0,))]
        before = list(claims)
        found = judge_all(claims)
        self.assertEqual(found, [0, 2, 4, 6])
        self.assertIs(type(found), list)
        self.assertEqual(claims, before)
        found.clear()
        self.assertEqual(judge_all(claims), [0, 2, 4, 6])

    def test_all_and_none(self):
        self.assertEqual(judge_all([]), [])
        self.assertEqual(judge_all(about_test(TEST) + about_row(TEST, (9,)) + about_test(RIGHT)), [])
        self.assertEqual(judge_all([("fails", TEST, (0,))] * 3), [0, 1, 2])


if __name__ == "__main__":
    unittest.main()
