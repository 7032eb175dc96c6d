import unittest

from choicerows.errors import GeneratorError
from choicerows.gentext import read_generator
from choicerows.ledgers import is_right_ledger, ledger, parts_of
from choicerows.tables import table
from samples import SMALL

BIT = ("int", 0, 1)
DIGIT = ("int", 0, 9)
BITS = ("list", BIT, 0, 3)
GREAT = ("int", -1000, 1000)
FULL = ("int", -999, 1000)
NOTHING = ("kept", BIT, ("atmost", -1))
ABOUT_BIT = (((0, 1, (0,)), (1, 1, (1,))), ())
FAULTS = [
    ("wrong bounds", (), ("int", 1, 0)), ("wrong bounds", (0,), ("kept", ("int", 0, 1001), ("atmost", 3))),
    ("wrong bounds", (), ("list", BIT, 2, 1)), ("wrong words", (), ("pick", ())), ("wrong number", (), ("one", ())),
    ("wrong number", (), ("tuple", (BIT,) * 5)), ("other kinds", (), ("one", (BIT, BITS))),
    ("does not fit", (), ("kept", BIT, ("divides", 0))), ("does not fit", (1,), ("tuple", (BIT, ("kept", BIT, ("rising",))))),
    ("does not fit", (), ("turned", BIT, ("sum",))), ("does not fit", (), ("repeat", BITS, BIT)),
]


def changed(triples):
    """Tables that differ from one in a single place."""
    for at, (value, count, row) in enumerate(triples):
        others = [(value, count + 1, row), (value, 0, row), (value, -count, row), ((value,), count, row),
                  (99, count, row), ("zz", count, row), (value, count, row + (0,)), (value, count, (7,) + row[1:])]
        for other in others:
            if other != triples[at]:
                yield (*triples[:at], other, *triples[at + 1:])
        yield (*triples[:at], *triples[at + 1:])
        yield (*triples[:at], triples[at], *triples[at:])
        if at > 0:
            yield (*triples[:at - 1], triples[at], triples[at - 1], *triples[at + 1:])
    yield (*triples, (123456, 1, (9, 9)))
    yield ((123456, 1, (-1,)), *triples)


class Parts(unittest.TestCase):
    def check(self, generator, wanted):
        before = repr(generator)
        found = parts_of(generator)
        self.assertEqual(found, wanted)
        self.assertIs(type(found), list)
        found.append("more")
        self.assertEqual(parts_of(generator), wanted)
        self.assertEqual(repr(generator), before)

    def test_of_each_form(self):
        self.check(DIGIT, [])
        self.check(("pick", ("a", "b")), [])
        self.check(("tuple", ()), [])
        self.check(("tuple", (DIGIT, BIT, BIT)), [DIGIT, BIT, BIT])
        self.check(("list", DIGIT, 0, 3), [DIGIT])
        self.check(("one", (BITS, BITS)), [BITS, BITS])
        self.check(("kept", BITS, ("rising",)), [BITS])
        self.check(("turned", BITS, ("sum",)), [BITS])
        self.check(("repeat", BIT, BITS), [BIT, BITS])


class Ledgers(unittest.TestCase):
    def check(self, generator, wanted):
        before = repr(generator)
        self.assertEqual(ledger(generator), wanted)
        self.assertIs(is_right_ledger(generator, wanted), True)
        self.assertEqual(repr(generator), before)

    def check_types(self, told):
        self.assertEqual([type(told), len(told), type(told[0]), type(told[1])], [tuple, 2, tuple, tuple])
        for triple in told[0]:
            self.assertEqual([type(triple), type(triple[1]), type(triple[2])], [tuple, int, tuple])
        for part in told[1]:
            self.check_types(part)

    def test_int_and_pick(self):
        self.check(BIT, ABOUT_BIT)
        self.check(("int", -3, -3), (((-3, 1, (0,)),), ()))
        self.check(("pick", ("b", "a")), ((("b", 1, (0,)), ("a", 1, (1,))), ()))

    def test_tuple(self):
        self.check(("tuple", ()), ((((), 1, ()),), ()))
        self.check(("tuple", (("int", 5, 5), BIT)), (
            (((5, 0), 1, (0, 0)), ((5, 1), 1, (0, 1))),
            ((((5, 1, (0,)),), ()), ABOUT_BIT),
        ))

    def test_list(self):
        self.check(("list", BIT, 0, 0), ((((), 1, ()),), (ABOUT_BIT,)))
        self.check(("list", BIT, 0, 1), (
            (((), 1, (0,)), ((0,), 1, (1, 0)), ((1,), 1, (1, 1))),
            (ABOUT_BIT,),
        ))
        self.check(("list", BIT, 1, 2), (
            (((0,), 1, (0, 0)), ((1,), 1, (1, 0)), ((0, 0), 1, (0, 1, 0)), ((0, 1), 1, (0, 1, 1)),
             ((1, 0), 1, (1, 1, 0)), ((1, 1), 1, (1, 1, 1))),
            (ABOUT_BIT,),
        ))

    def test_one(self):
        self.check(("one", (BIT, ("int", 1, 1))), (
            ((0, 1, (0, 0)), (1, 2, (0, 1))),
            (ABOUT_BIT, (((1, 1, (0,)),), ())),
        ))

    def test_kept_and_turned(self):
        self.check(("kept", BIT, ("atmost", 0)), (((0, 1, (0,)),), (ABOUT_BIT,)))
        self.check(NOTHING, ((), (ABOUT_BIT,)))
        self.check(("turned", BIT, ("times", 0)), (((0, 2, (0,)),), (ABOUT_BIT,)))
        self.check(("turned", NOTHING, ("plus", 1)), ((), (((), (ABOUT_BIT,)),)))

    def test_repeat(self):
        self.check(("repeat", ("int", -1, 1), BIT), (
            (((), 1, (1,)), ((0,), 1, (2, 0)), ((1,), 1, (2, 1))),
            ((((-1, 1, (0,)), (0, 1, (1,)), (1, 1, (2,))), ()), ABOUT_BIT),
        ))
        zeros = (((0, 2, (0,)),), (ABOUT_BIT,))
        self.check(("repeat", ("turned", BIT, ("plus", 1)), ("turned", BIT, ("times", 0))), (
            (((0,), 2, (0, 0)), ((0, 0), 4, (1, 0, 0))),
            ((((1, 1, (0,)), (2, 1, (1,))), (ABOUT_BIT,)), zeros),
        ))

    def test_tables_and_ledgers_of_the_parts(self):
        for generator in SMALL:
            told = ledger(generator)
            self.check_types(told)
            self.assertEqual(told, (tuple(table(generator)), tuple(ledger(part) for part in parts_of(generator))))
            self.assertIs(is_right_ledger(generator, told), True, generator)

    def test_example_of_the_document(self):
        generator = read_generator("list( kept(int(0,4),not(atmost(2))), 0,2 )")
        inner = tuple((value, 1, (value,)) for value in range(5))
        self.check(generator, (tuple(table(generator)), ((((3, 1, (3,)), (4, 1, (4,))), ((inner, ()),)),)))

    def test_faults(self):
        for what, path, generator in FAULTS:
            with self.assertRaises(GeneratorError) as held:
                ledger(generator)
            self.assertEqual((held.exception.what, held.exception.path), (what, path))

    def test_too_many(self):
        for path, generator in [
            ((), GREAT), ((0,), ("list", GREAT, 0, 0)), ((1, 0), ("tuple", (BIT, ("turned", GREAT, ("times", 0))))),
            ((), ("tuple", (("int", 0, 99), ("int", 0, 99)))), ((0,), ("repeat", GREAT, GREAT)),
            ((), ("one", (("int", 1, 1000), ("int", -1000, 0)))),
        ]:
            with self.assertRaises(GeneratorError) as held:
                ledger(generator)
            self.assertEqual((held.exception.what, held.exception.path), ("too many", path))
        self.check(("one", (("int", 1, 1000), ("int", -999, 0))), (
            tuple([(value, 1, (0, value - 1)) for value in range(1, 1001)]
                  + [(value, 1, (1, value + 999)) for value in range(-999, 1)]),
            (ledger(("int", 1, 1000)), ledger(("int", -999, 0))),
        ))


class RightLedgers(unittest.TestCase):
    def check(self, generator, told, wanted):
        before = repr((generator, told))
        self.assertIs(is_right_ledger(generator, told), wanted, (generator, told))
        self.assertEqual(repr((generator, told)), before)

    def test_other_tables_are_not_right(self):
        for generator in SMALL:
            triples, ledgers = ledger(generator)
            for other in changed(triples[:20]):
                self.check(generator, (other + triples[20:], ledgers), False)

    def test_every_part_must_be_right(self):
        for generator in SMALL:
            triples, ledgers = ledger(generator)
            for at, told in enumerate(ledgers):
                for other in changed(told[0][:4]):
                    parts = (*ledgers[:at], (other + told[0][4:], told[1]), *ledgers[at + 1:])
                    self.check(generator, (triples, parts), False)

    def test_parts_within_parts_must_be_right(self):
        generator = ("turned", ("kept", BIT, ("atmost", 0)), ("plus", 1))
        right = (((1, 1, (0,)),), ((((0, 1, (0,)),), (ABOUT_BIT,)),))
        self.check(generator, right, True)
        for inner in changed(ABOUT_BIT[0]):
            self.check(generator, (right[0], ((((0, 1, (0,)),), ((inner, ()),)),)), False)

    def test_a_table_made_of_a_wrong_one(self):
        wrong = (((0, 1, (0,)), (1, 1, (1,)), (2, 1, (2,))), ())
        self.check(("kept", BIT, ("atmost", 5)), (wrong[0], (wrong,)), False)
        self.check(("kept", ("int", 0, 2), ("atmost", 5)), (wrong[0], (wrong,)), True)
        few = (((0, 1, (0,)),), ())
        self.check(("kept", BIT, ("atmost", 5)), (few[0], (few,)), False)

    def test_the_number_of_parts(self):
        for generator in SMALL:
            triples, ledgers = ledger(generator)
            self.check(generator, (triples, (*ledgers, ABOUT_BIT)), False)
            self.check(generator, (triples, (((), ()), *ledgers)), False)
            if ledgers:
                self.check(generator, (triples, ledgers[1:]), False)
                self.check(generator, (triples, ledgers[:-1]), False)
                self.check(generator, (triples, ()), False)
                self.check(generator, (triples, ledgers + ledgers), False)

    def test_the_order_of_the_parts(self):
        generator = ("tuple", (BIT, DIGIT))
        triples, (first, other) = ledger(generator)
        self.check(generator, (triples, (first, other)), True)
        self.check(generator, (triples, (other, first)), False)

    def test_ledgers_of_other_generators(self):
        for generator in SMALL:
            for other in SMALL:
                told = ledger(other)
                self.check(generator, told, told == ledger(generator))

    def test_ledgers_of_other_kinds_for_the_parts(self):
        words = ((("a", 1, (0,)), ("b", 1, (1,))), ())
        self.check(("kept", BIT, ("atmost", 0)), (words[0], (words,)), False)
        self.check(("turned", BIT, ("plus", 1)), (words[0], (words,)), False)
        self.check(("repeat", BIT, BIT), (words[0], (words, words)), False)
        self.check(("kept", BITS, ("rising",)), (ABOUT_BIT[0], (ABOUT_BIT,)), False)

    def test_empty_ones(self):
        for generator in SMALL:
            self.check(generator, ((), ()), False)
        self.check(NOTHING, ((), (ABOUT_BIT,)), True)
        self.check(NOTHING, ((), (((), ()),)), False)

    def test_generators_with_faults_have_none(self):
        self.check(("int", 1, 0), ((), ()), False)
        self.check(("int", 1001, 1001), (((1001, 1, (0,)),), ()), False)
        self.check(("pick", ()), ((), ()), False)
        self.check(("one", ()), ((), ()), False)
        self.check(("kept", BIT, ("divides", 0)), ((), (ABOUT_BIT,)), False)
        self.check(("turned", BIT, ("plus", 1001)), (((1001, 1, (0,)), (1002, 1, (1,))), (ABOUT_BIT,)), False)
        self.check(("kept", BIT, ("rising",)), ((), (ABOUT_BIT,)), False)

    def test_more_than_two_thousand_values_may_be_right(self):
        great = (tuple((value, 1, (value + 1000,)) for value in range(-1000, 1001)), ())
        self.check(GREAT, great, True)
        self.check(GREAT, (great[0][:-1], ()), False)
        self.check(("turned", GREAT, ("times", 0)), (((0, 2001, (0,)),), (great,)), True)
        self.check(("turned", GREAT, ("times", 0)), (((0, 2000, (0,)),), (great,)), False)
        pairs = tuple(((value, other), 1, (value, other)) for value in range(50) for other in range(50))
        half = ledger(("int", 0, 49))
        self.check(("tuple", (("int", 0, 49), ("int", 0, 49))), (pairs, (half, half)), True)
        self.check(("tuple", (("int", 0, 49), ("int", 0, 49))), (pairs[:-1], (half, half)), False)
        self.check(("tuple", (("int", 0, 49), ("int", 0, 49))), (pairs[:-1] + pairs[-2:-1], (half, half)), False)

    def test_far_more_ways_than_triples(self):
        full = ledger(FULL)
        for told in [(), full[0], full[0] * 6]:
            self.check(("list", FULL, 0, 6), (told, (full,)), False)
            self.check(("list", FULL, 6, 6), (told, (full,)), False)
            self.check(("tuple", (FULL,) * 4), (told, (full,) * 4), False)
            self.check(("repeat", ("int", 6, 6), FULL), (told, (ledger(("int", 6, 6)), full)), False)

    def test_great_counts(self):
        generator = ("turned", FULL, ("times", 0))
        for power in (1, 6, 36):
            told = ledger(generator)
            self.check(generator, told, True)
            (value, count, row), = told[0]
            self.assertEqual(count, 2000 ** power)
            self.check(generator, (((value, count - 1, row),), told[1]), False)
            generator = ("list", generator, 6, 6)


if __name__ == "__main__":
    unittest.main()
