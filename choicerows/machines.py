"""Machines, which test commands over states: points [26] to [28] of the document."""

from choicerows.conditions import fits, holds, is_word
from choicerows.drawing import choose, draw_from
from choicerows.errors import GeneratorError, MachineError
from choicerows.generators import kind_of
from choicerows.limits import COMMANDS, GREAT, LONG, STATES
from choicerows.rows import is_less, rank, sorted_rows
from choicerows.tables import table


def machine(first, commands, most):
    """Return a machine; raise MachineError with its first fault."""
    if not -GREAT <= first <= GREAT:
        raise MachineError("wrong first", -1)
    if not 1 <= len(commands) <= COMMANDS:
        raise MachineError("wrong number", -1)
    if not 0 <= most <= LONG:
        raise MachineError("wrong most", -1)
    for at, command in enumerate(commands):
        what = _fault_in(command, [earlier[0] for earlier in commands[:at]])
        if what is not None:
            raise MachineError(what, at)
    return (first, tuple(commands), most)


def _fault_in(command, names):
    # None if there is no fault; the names are those of the commands ahead.
    name, guard, generator, effect = command
    if not is_word(name):
        return "wrong name"
    if name in names:
        return "named twice"
    if not fits(guard, "int"):
        return "wrong guard"
    if not _makes_integers(generator):
        return "wrong generator"
    if effect not in ("add", "take", "set"):
        return "wrong effect"
    return None


def _makes_integers(generator):
    try:
        return kind_of(generator) == "int"
    except GeneratorError:
        return False


def run_machine(some_machine, row):
    """Return the outcome of a run that a row draws."""
    state, commands, most = some_machine
    steps = []
    place = 0
    while len(steps) < most:
        outcome = choose(row, place, 1)
        if outcome[0] != "value":
            return outcome
        place = outcome[2]
        if outcome[1] == 0:
            break
        outcome = _draw_step(commands, state, row, place)
        if outcome[0] != "value":
            return outcome
        steps.append(outcome[1])
        state = outcome[1][2]
        place = outcome[2]
    return ("value", tuple(steps), place)


def _draw_step(commands, state, row, place):
    allowed = _allowed(commands, state)
    if len(allowed) == 0:
        return ("refused", place)
    outcome = choose(row, place, len(allowed) - 1)
    if outcome[0] != "value":
        return outcome
    name, _, generator, effect = commands[allowed[outcome[1]]]
    outcome = draw_from(generator, row, outcome[2])
    if outcome[0] != "value":
        return outcome
    argument = outcome[1]
    return ("value", (name, argument, _state_behind(effect, state, argument)), outcome[2])


def _allowed(commands, state):
    # The indices of the commands whose guard holds.
    return [at for at, command in enumerate(commands) if holds(command[1], state)]


def _state_behind(effect, state, argument):
    if effect == "add":
        return state + argument
    if effect == "take":
        return state - argument
    return argument


def does_fail(some_machine, invariant, row):
    """Tell whether a row is exact and draws a run in which the invariant does not hold of some state."""
    outcome = run_machine(some_machine, row)
    if outcome[0] != "value" or outcome[2] != len(row):
        return False
    states = [some_machine[0]] + [state for _, _, state in outcome[1]]
    return not all([holds(invariant, state) for state in states])


def least_run(some_machine, invariant):
    """Return the least row that fails, or None if none does."""
    # A run that goes on behind a state that fails has a longer row than the one that ends there.
    ends = _least_ends(some_machine)
    failing = sorted_rows([row for state, row in ends.items() if not holds(invariant, state)])
    return failing[0] if failing else None


def reachable(some_machine):
    """Return the states that stand in the values of exact rows, and the first one, in ascending order."""
    return sorted(list(_least_ends(some_machine)))


def _least_ends(some_machine):
    # The reachable states, each with the least exact row of a run that ends in it.
    first, commands, most = some_machine
    tables = [table(command[2]) for command in commands]
    ends = {}
    rows = {first: ()}
    for _ in range(most):
        _keep_ends(ends, rows, (0,))
        rows = _worth_going_on(_one_step_on(commands, tables, rows), ends)
    # Behind the last step no choice is wanted.
    _keep_ends(ends, rows, ())
    return ends


def _keep_ends(ends, rows, last):
    for state, row in rows.items():
        _keep_lesser(ends, state, row + last)
    _refuse_many(ends)


def _keep_lesser(rows, state, row):
    if state not in rows or is_less(row, rows[state]):
        rows[state] = row


def _refuse_many(rows):
    if len(rows) > STATES:
        raise MachineError("too many", -1)


def _worth_going_on(rows, ends):
    # With a longer row than that of a run that ends in the state, which has fewer steps, nothing leads to a least
    # row: whatever can follow it can follow the shorter one, too, even with a last 0 that is not wanted here.
    return {state: row for state, row in rows.items() if state not in ends or len(row) <= len(ends[state])}


def _one_step_on(commands, tables, rows):
    # The states behind one more step, each with the least row that leads to it.
    further = {}
    for command, triples, starts in zip(commands, tables, _starts(commands, rows)):
        effect = command[3]
        for state, row in _needed(effect, starts):
            for argument, _, behind in triples:
                _keep_lesser(further, _state_behind(effect, state, argument), row + behind)
            _refuse_many(further)
    return further


def _starts(commands, rows):
    # For each command, the states in which it is allowed, with the rows that end with picking it.
    starts = [[] for _ in commands]
    for state, row in rows.items():
        for choice, at in enumerate(_allowed(commands, state)):
            starts[at].append((state, (*row, 1, choice)))
    return starts


def _needed(effect, starts):
    # Where an argument is set, the state ahead of it does not matter, and only the least row does.
    return sorted(starts, key=lambda start: rank(start[1]))[:1] if effect == "set" else starts
