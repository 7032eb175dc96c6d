import unittest
from itertools import product

from choicerows.conditions import holds
from choicerows.errors import GeneratorError, MachineError
from choicerows.machines import does_fail, least_run, machine, reachable, run_machine
from samples import exact_runs

BIT = ("int", 0, 1)
GREAT = ("int", -1000, 1000)
FULL = ("int", -999, 1000)
ALWAYS = ("atmost", 10 ** 6)
POSITIVE = ("not", ("atmost", 0))
NOTHING = ("kept", BIT, ("atmost", -1))
EMPTY = ("list", BIT, 0, 0)
# It makes 0 without any choice.
ZERO = ("turned", EMPTY, ("length",))
PUT = ("put", ("atmost", 3), ("int", 1, 2), "add")
GET = ("get", POSITIVE, ("int", 1, 3), "take")
EXAMPLE = machine(0, [PUT, GET], 2)


def fixed(number):
    """A generator that makes a number without any choice."""
    return ("turned", ZERO, ("plus", number))


def small_machines():
    guards = [ALWAYS, ("atmost", 0), ("not", ("divides", 2))]
    generators = [("int", -1, 1), fixed(2), ("turned", ("list", BIT, 0, 1), ("sum",)), ("kept", ("int", 1, 4), ("divides", 2))]
    commands = list(product(guards, generators, ["add", "take", "set"]))
    for at, command in enumerate(commands):
        for most in range(4):
            yield machine(at % 3 - 1, [("one", *command)], most)
        for shift in (1, 7, 19):
            other = commands[(at + shift) % len(commands)]
            yield machine(at % 3 - 1, [("one", *command), ("two", *other)], 2)
    yield machine(0, [("one", ALWAYS, BIT, "add"), ("two", ALWAYS, ("int", 1, 2), "take"),
                      ("three", POSITIVE, fixed(5), "set"), ("four", ("divides", 5), ("int", 3, 3), "take")], 3)


class Faults(unittest.TestCase):
    def check(self, what, place, first, commands, most):
        before = repr((first, commands, most))
        with self.assertRaises(MachineError) as held:
            machine(first, commands, most)
        self.assertEqual((held.exception.what, held.exception.place), (what, place))
        self.assertEqual(repr((first, commands, most)), before)

    def check_right(self, first, commands, most):
        self.assertEqual(machine(first, commands, most), (first, tuple(commands), most))

    def check_command(self, what, command):
        self.check(what, 0, 0, [command], 2)
        self.check(what, 1, 0, [("other", ALWAYS, BIT, "add"), command], 2)
        self.check(what, 1, 0, [("other", ALWAYS, BIT, "add"), command, ("", (), (), "")], 2)
        self.check(what, 3, 0, [("o", ALWAYS, BIT, "add"), ("p", ALWAYS, BIT, "add"), ("q", ALWAYS, BIT, "add"), command], 2)

    def test_right_ones(self):
        self.check_right(0, [PUT], 0)
        self.check_right(-1000, [PUT, GET], 6)
        self.check_right(1000, [PUT, GET, ("abcdefgh", ALWAYS, ZERO, "set"), ("i", ALWAYS, NOTHING, "take")], 6)
        self.check_right(5, [("a", ("divides", 100), GREAT, "set")], 1)

    def test_first(self):
        self.check("wrong first", -1, 1001, [PUT], 2)
        self.check("wrong first", -1, -1001, [PUT], 2)

    def test_number(self):
        self.check("wrong number", -1, 0, [], 2)
        commands = [(name, ALWAYS, BIT, "add") for name in ("a", "b", "c", "d", "e")]
        self.check("wrong number", -1, 0, commands, 2)
        self.check_right(0, commands[:4], 2)

    def test_most(self):
        self.check("wrong most", -1, 0, [PUT], -1)
        self.check("wrong most", -1, 0, [PUT], 7)

    def test_names(self):
        for name in ("", "abcdefghi", "Put", "put1", "pu t", "_"):
            self.check_command("wrong name", (name, ALWAYS, BIT, "add"))

    def test_named_twice(self):
        self.check("named twice", 1, 0, [PUT, PUT], 2)
        self.check("named twice", 2, 0, [PUT, GET, ("put", ALWAYS, BIT, "set")], 2)
        self.check("named twice", 2, 0, [GET, PUT, ("put", ALWAYS, BIT, "set")], 2)
        self.check("named twice", 3, 0, [PUT, GET, ("set", ALWAYS, BIT, "set"), GET], 2)

    def test_guards(self):
        for guard in [("rising",), ("is", "a"), ("divides", 0), ("divides", 101), ("size", ALWAYS), ("item", 0, ALWAYS),
                      ("and", ALWAYS, ("rising",))]:
            self.check_command("wrong guard", ("a", guard, BIT, "add"))

    def test_generators(self):
        for generator in [("int", 1, 0), ("int", 0, 1001), ("pick", ("a",)), ("pick", ()), ("tuple", (BIT,)), EMPTY,
                          ("kept", BIT, ("rising",)), ("kept", ("int", 3, 2), ALWAYS), ("turned", BIT, ("length",)),
                          ("one", ()), ("one", (BIT, EMPTY)), ("repeat", BIT, BIT)]:
            self.check_command("wrong generator", ("a", ALWAYS, generator, "add"))

    def test_effects(self):
        for effect in ("", "Add", "put", "adds"):
            self.check_command("wrong effect", ("a", ALWAYS, BIT, effect))

    def test_the_first_fault(self):
        wrong = ("A", ("rising",), EMPTY, "put")
        self.check("wrong first", -1, 1001, [], 7)
        self.check("wrong first", -1, 1001, [wrong], 2)
        self.check("wrong number", -1, 0, [], 7)
        self.check("wrong number", -1, 0, [wrong] * 5, 7)
        self.check("wrong most", -1, 0, [wrong], 7)
        self.check("wrong name", 0, 0, [wrong, wrong], 2)
        self.check("wrong guard", 0, 0, [("a", *wrong[1:]), wrong], 2)
        self.check("wrong generator", 0, 0, [("a", ALWAYS, EMPTY, "put"), wrong], 2)
        self.check("wrong effect", 0, 0, [("a", ALWAYS, BIT, "put"), wrong], 2)
        self.check("wrong name", 1, 0, [PUT, wrong], 2)
        self.check("named twice", 1, 0, [("a", ALWAYS, BIT, "add"), ("a", *wrong[1:])], 2)
        # A wrong name that stands twice is wrong the first time.
        self.check("wrong name", 1, 0, [PUT, ("A", ALWAYS, BIT, "add"), ("A", ALWAYS, BIT, "add")], 2)

    def test_the_list_is_not_kept(self):
        commands = [PUT, GET]
        made = machine(0, commands, 2)
        commands.append(PUT)
        self.assertEqual(made, (0, (PUT, GET), 2))


class Runs(unittest.TestCase):
    def check(self, some_machine, row, wanted):
        before = repr((some_machine, row))
        self.assertEqual(run_machine(some_machine, row), wanted)
        self.assertEqual(repr((some_machine, row)), before)

    def test_example_of_the_document(self):
        self.check(EXAMPLE, (1, 0, 0, 1, 1, 2), ("value", (("put", 1, 1), ("get", 3, -2)), 6))
        self.assertEqual(least_run(EXAMPLE, ("not", ("atmost", -1))), (1, 0, 0, 1, 1, 1))
        self.assertEqual(reachable(EXAMPLE), [-2, -1, 0, 1, 2, 3, 4])

    def test_values(self):
        self.check(EXAMPLE, (0,), ("value", (), 1))
        self.check(EXAMPLE, (0, 1, 0), ("value", (), 1))
        self.check(EXAMPLE, (1, 0, 1, 0), ("value", (("put", 2, 2),), 4))
        self.check(EXAMPLE, (1, 0, 1, 1, 0, 1), ("value", (("put", 2, 2), ("put", 2, 4)), 6))
        self.check(EXAMPLE, (1, 0, 1, 1, 0, 1, 0, 9), ("value", (("put", 2, 2), ("put", 2, 4)), 6))

    def test_effects(self):
        commands = [("a", ALWAYS, ("int", 3, 5), "add"), ("b", ALWAYS, ("int", 3, 5), "take"),
                    ("c", ALWAYS, ("int", 3, 5), "set")]
        some_machine = machine(10, commands, 3)
        self.check(some_machine, (1, 0, 2, 1, 1, 0, 1, 2, 1), ("value", (("a", 5, 15), ("b", 3, 12), ("c", 4, 4)), 9))
        self.check(some_machine, (1, 2, 0, 1, 1, 2, 0), ("value", (("c", 3, 3), ("b", 5, -2)), 7))

    def test_no_steps(self):
        some_machine = machine(7, [PUT], 0)
        self.check(some_machine, (), ("value", (), 0))
        self.check(some_machine, (0,), ("value", (), 0))

    def test_short_and_wrong(self):
        for row in [(), (1,), (1, 0), (1, 0, 0), (1, 0, 0, 1), (1, 0, 0, 1, 1)]:
            self.check(EXAMPLE, row, ("short", len(row)))
        self.check(EXAMPLE, (2,), ("wrong", 0))
        self.check(EXAMPLE, (-1, 0), ("wrong", 0))
        self.check(EXAMPLE, (1, 1, 0), ("wrong", 1))
        self.check(EXAMPLE, (1, -1, 0), ("wrong", 1))
        self.check(EXAMPLE, (1, 0, 2), ("wrong", 2))
        self.check(EXAMPLE, (1, 0, 0, 2), ("wrong", 3))
        self.check(EXAMPLE, (1, 0, 0, 1, 2), ("wrong", 4))
        self.check(EXAMPLE, (1, 0, 0, 1, 1, 3), ("wrong", 5))

    def test_only_allowed_commands_are_picked(self):
        some_machine = machine(4, [PUT, GET, ("zero", ("atmost", 9), BIT, "set")], 3)
        self.check(some_machine, (1, 0, 0, 0), ("value", (("get", 1, 3),), 4))
        self.check(some_machine, (1, 1, 0, 0), ("value", (("zero", 0, 0),), 4))
        self.check(some_machine, (1, 2), ("wrong", 1))
        self.check(some_machine, (1, 0, 0, 1, 2, 1, 0), ("value", (("get", 1, 3), ("zero", 1, 1)), 7))

    def test_none_is_allowed(self):
        some_machine = machine(4, [PUT], 2)
        self.check(some_machine, (0,), ("value", (), 1))
        self.check(some_machine, (1,), ("refused", 1))
        self.check(some_machine, (1, 0, 0), ("refused", 1))
        some_machine = machine(3, [PUT], 3)
        self.check(some_machine, (1, 0, 1, 1, 5), ("refused", 4))

    def test_generators_that_refuse(self):
        some_machine = machine(0, [("a", ALWAYS, ("kept", BIT, ("atmost", 0)), "add"), ("b", ALWAYS, NOTHING, "add")], 2)
        self.check(some_machine, (1, 0, 1), ("refused", 3))
        self.check(some_machine, (1, 0, 0, 1, 1, 0), ("refused", 6))
        self.check(some_machine, (1, 0, 0, 1, 1), ("short", 5))

    def test_arguments_of_several_choices_and_of_none(self):
        some_machine = machine(0, [("a", ALWAYS, ("turned", ("list", BIT, 0, 2), ("sum",)), "add"),
                                   ("b", ALWAYS, fixed(4), "take")], 3)
        self.check(some_machine, (1, 0, 1, 1, 1, 1, 1, 1, 1, 0, 0),
                   ("value", (("a", 2, 2), ("b", 4, -2), ("a", 0, -2)), 11))

    def test_guards_are_asked_of_the_state_each_time(self):
        some_machine = machine(0, [("up", ("atmost", 0), fixed(1), "add"), ("down", POSITIVE, fixed(1), "take")], 6)
        names = ["up", "down", "up", "down", "up", "down"]
        told = tuple((name, 1, 1 if name == "up" else 0) for name in names)
        self.check(some_machine, (1, 0) * 6, ("value", told, 12))


class Failing(unittest.TestCase):
    NOT_BELOW = ("not", ("atmost", -1))

    def check(self, some_machine, invariant, row, wanted):
        before = repr((some_machine, invariant, row))
        self.assertIs(does_fail(some_machine, invariant, row), wanted)
        self.assertEqual(repr((some_machine, invariant, row)), before)

    def test_rows(self):
        self.check(EXAMPLE, self.NOT_BELOW, (1, 0, 0, 1, 1, 2), True)
        self.check(EXAMPLE, self.NOT_BELOW, (1, 0, 0, 1, 1, 0), False)
        self.check(EXAMPLE, self.NOT_BELOW, (0,), False)

    def test_rows_that_are_not_exact(self):
        self.check(EXAMPLE, self.NOT_BELOW, (1, 0, 0, 1, 1, 2, 0), False)
        self.check(EXAMPLE, self.NOT_BELOW, (1, 0, 0, 1, 1), False)
        self.check(EXAMPLE, self.NOT_BELOW, (1, 0, 0, 1, 1, 3), False)
        self.check(EXAMPLE, ("atmost", -1), (), False)
        self.check(EXAMPLE, ("atmost", -1), (2,), False)
        self.check(machine(4, [PUT], 2), ("atmost", 3), (1,), False)

    def test_the_first_state(self):
        self.check(EXAMPLE, POSITIVE, (0,), True)
        self.check(EXAMPLE, POSITIVE, (1, 0, 0, 0), True)
        self.check(machine(5, [PUT], 0), ("atmost", 4), (), True)
        self.check(machine(5, [PUT], 0), ("atmost", 5), (), False)

    def test_states_in_between(self):
        self.check(EXAMPLE, ("atmost", 1), (1, 0, 1, 1, 1, 2), True)
        self.check(EXAMPLE, ("atmost", 2), (1, 0, 1, 1, 1, 2), False)


class LeastRuns(unittest.TestCase):
    INVARIANTS = [ALWAYS, ("atmost", -2000), ("atmost", 0), ("atmost", 2), ("not", ("atmost", -2)), ("divides", 2),
                  ("not", ("divides", 3)), ("not", ("divides", 4)), ("and", ("atmost", 3), ("not", ("atmost", -3)))]

    def check(self, some_machine, invariant, wanted):
        before = repr((some_machine, invariant))
        self.assertEqual(least_run(some_machine, invariant), wanted, (some_machine, invariant))
        if wanted is not None:
            self.assertIs(does_fail(some_machine, invariant, wanted), True)
        self.assertEqual(repr((some_machine, invariant)), before)

    def test_ordinary_ones(self):
        self.check(EXAMPLE, ("atmost", 0), (1, 0, 0, 0))
        self.check(EXAMPLE, ("atmost", 1), (1, 0, 1, 0))
        self.check(EXAMPLE, ("atmost", 2), (1, 0, 0, 1, 0, 1))
        self.check(EXAMPLE, ("atmost", 4), None)
        self.check(EXAMPLE, ("not", ("atmost", -3)), None)

    def test_the_first_state(self):
        self.check(EXAMPLE, POSITIVE, (0,))
        self.check(machine(5, [PUT], 0), ("atmost", 4), ())
        self.check(machine(5, [PUT], 0), ("atmost", 5), None)

    def test_no_last_choice_behind_the_last_step(self):
        commands = [("two", ("atmost", 4), fixed(3), "add"), ("one", ALWAYS, ("int", 0, 6), "set")]
        # The run of one step to 6 has the row (1, 1, 6, 0), as its end is told by a choice.
        self.check(machine(0, commands, 2), ("not", ("divides", 6)), (0,))
        self.check(machine(1, commands, 2), ("atmost", 6), (1, 0, 1, 0))
        self.check(machine(0, commands, 2), ("atmost", 5), (1, 0, 1, 0))
        self.check(machine(0, commands, 3), ("atmost", 5), (1, 1, 6, 0))
        self.check(machine(0, commands, 1), ("atmost", 5), (1, 1, 6))

    def test_a_longer_way_to_a_state_may_be_the_less_one(self):
        # To 2 lead one step with an argument of 3 choices, or two steps with arguments of none.
        commands = [("go", ("atmost", 2), fixed(1), "add"),
                    ("jump", ("atmost", 0), ("turned", ("tuple", (BIT, BIT, ("int", 2, 2))), ("item", 2)), "set"),
                    ("leap", ("divides", 2), ("int", 7, 7), "add")]
        self.check(machine(0, commands, 3), ("atmost", 8), (1, 0, 1, 0, 1, 1, 0))
        self.check(machine(0, commands, 4), ("atmost", 8), (1, 0, 1, 0, 1, 1, 0, 0))

    def test_against_all_runs(self):
        for some_machine in small_machines():
            runs = exact_runs(some_machine)
            for invariant in self.INVARIANTS:
                failing = []
                for row, value in runs:
                    states = [some_machine[0]] + [state for _, _, state in value]
                    wanted = any(not holds(invariant, state) for state in states)
                    self.assertIs(does_fail(some_machine, invariant, row), wanted)
                    if wanted:
                        failing.append(row)
                self.check(some_machine, invariant, failing[0] if failing else None)


class Reachable(unittest.TestCase):
    def check(self, some_machine, wanted):
        before = repr(some_machine)
        found = reachable(some_machine)
        self.assertEqual(found, wanted)
        self.assertIs(type(found), list)
        found.append("more")
        self.assertEqual(reachable(some_machine), wanted)
        self.assertEqual(repr(some_machine), before)

    def test_ordinary_ones(self):
        self.check(machine(5, [PUT], 0), [5])
        self.check(machine(5, [PUT], 3), [5])
        self.check(machine(3, [PUT], 3), [3, 4, 5])
        self.check(machine(0, [("a", ALWAYS, ("int", -1, 1), "take")], 2), [-2, -1, 0, 1, 2])
        self.check(machine(9, [("a", ALWAYS, NOTHING, "add")], 2), [9])
        self.check(machine(1000, [("a", ALWAYS, ("turned", ("int", 1000, 1000), ("times", 1000)), "add")], 6),
                   [1000, 1001000])
        self.check(machine(0, [("a", ("atmost", 10 ** 9), ("int", 1000, 1000), "add")], 6),
                   [0, 1000, 2000, 3000, 4000, 5000, 6000])

    def test_against_all_runs(self):
        for some_machine in small_machines():
            states = {some_machine[0]}
            for _, value in exact_runs(some_machine):
                states.update(state for _, _, state in value)
            self.check(some_machine, sorted(states))


class TooMany(unittest.TestCase):
    def check(self, error, where, some_machine):
        before = repr(some_machine)
        for function, arguments in [(reachable, ()), (least_run, (ALWAYS,)), (least_run, (("atmost", -5000),))]:
            with self.assertRaises(error) as held:
                function(some_machine, *arguments)
            self.assertEqual(held.exception.what, "too many")
            told = held.exception.path if error is GeneratorError else held.exception.place
            self.assertEqual(told, where)
        self.assertEqual(repr(some_machine), before)

    def check_fine(self, some_machine, many):
        self.assertEqual(len(reachable(some_machine)), many)
        self.assertIs(least_run(some_machine, ("atmost", 10 ** 9)), None)

    def test_values_of_a_generator(self):
        self.check(GeneratorError, (), machine(0, [("a", ALWAYS, GREAT, "add")], 1))
        self.check(GeneratorError, (0,), machine(0, [PUT, ("a", ALWAYS, ("kept", GREAT, ("atmost", 0)), "set")], 1))
        self.check(GeneratorError, (0, 1), machine(0, [("a", ALWAYS, ("turned", ("tuple", (BIT, GREAT)), ("item", 0)),
                                                        "set")], 6))

    def test_values_of_generators_come_first(self):
        self.check(GeneratorError, (), machine(0, [("a", ALWAYS, FULL, "add"), ("b", ALWAYS, GREAT, "add")], 6))
        self.check(GeneratorError, (0,), machine(0, [("a", ALWAYS, ("kept", GREAT, ALWAYS), "add"),
                                                     ("b", ALWAYS, GREAT, "add")], 6))
        self.check(GeneratorError, (), machine(0, [("a", ("atmost", -1), GREAT, "add")], 1))

    def test_states(self):
        self.check_fine(machine(0, [("a", ALWAYS, FULL, "add")], 1), 2000)
        self.check(MachineError, -1, machine(0, [("a", ALWAYS, FULL, "add")], 2))
        self.check(MachineError, -1, machine(0, [("a", ALWAYS, ("int", 1, 667), "add")], 3))
        self.check_fine(machine(0, [("a", ALWAYS, ("int", 1, 666), "add")], 3), 1999)
        self.check(MachineError, -1, machine(0, [("a", ALWAYS, FULL, "add")], 6))

    def test_the_first_state_counts(self):
        self.check_fine(machine(0, [("a", ALWAYS, FULL, "set")], 6), 2000)
        self.check_fine(machine(1000, [("a", ALWAYS, ("int", -999, 999), "set")], 6), 2000)
        self.check(MachineError, -1, machine(-1000, [("a", ALWAYS, FULL, "set")], 1))
        self.check(MachineError, -1, machine(-1000, [("a", ALWAYS, FULL, "set")], 6))

    def test_states_of_several_commands(self):
        commands = [("a", ALWAYS, ("int", 1, 1000), "set"), ("b", ALWAYS, ("int", -998, 0), "set"),
                    ("c", ALWAYS, ("int", -999, -999), "set")]
        self.check_fine(machine(0, commands[:2], 6), 1999)
        self.check_fine(machine(0, commands, 6), 2000)
        self.check(MachineError, -1, machine(-1000, commands, 6))

    def test_states_of_several_steps(self):
        commands = [("a", ("atmost", 0), ("int", 1, 999), "add"),
                    ("b", ("and", POSITIVE, ("atmost", 999)), ("int", 1000, 1000), "add"),
                    ("c", ("not", ("atmost", 1998)), ("int", 1, 2), "add")]
        self.check_fine(machine(0, commands, 1), 1000)
        self.check_fine(machine(0, commands, 2), 1999)
        self.check(MachineError, -1, machine(0, commands, 3))
        self.check_fine(machine(0, commands[:2] + [("c", ("not", ("atmost", 1998)), ("int", 1, 1), "add")], 3), 2000)

    def test_runs_need_no_tables(self):
        some_machine = machine(0, [("a", ALWAYS, GREAT, "add")], 6)
        self.assertEqual(run_machine(some_machine, (1, 0, 2000, 0)), ("value", (("a", 1000, 1000),), 4))
        self.assertIs(does_fail(some_machine, ("atmost", 999), (1, 0, 2000, 0)), True)


if __name__ == "__main__":
    unittest.main()
