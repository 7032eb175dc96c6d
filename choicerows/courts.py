"""Claims, and whether they hold: points [32] and [33] of the document."""

from choicerows.conditions import holds
from choicerows.ledgers import is_right_ledger, ledger
from choicerows.machines import does_fail, least_run
from choicerows.shrinking import course, is_settled
from choicerows.tables import chance
from choicerows.trials import says


def about_test(test):
    """Return the claims about a test: that a row is the least failing one, and fails, or that none ever fails."""
    told = ledger(test[0])
    rows = _failing_rows(test, told)
    if len(rows) == 0:
        return [("never", test, told)]
    return [("least", test, rows[0], told), ("fails", test, rows[0])]


def about_row(test, row):
    """Return the claims about a failing row: that it fails, what its course is, and that the end is settled."""
    rows = course(test, row)
    return [("fails", test, row), ("course", test, rows), ("settled", test, rows[-1])]


def about_machine(some_machine, invariant):
    """Return the claim about the least failing run, or None if no run fails."""
    row = least_run(some_machine, invariant)
    return None if row is None else ("run", some_machine, invariant, row)


def judge(claim):
    """Tell whether a claim holds."""
    name = claim[0]
    if name == "fails":
        return _is_failing(claim[1], claim[2])
    if name == "least":
        return _is_right_least(claim[1], claim[2], claim[3])
    if name == "never":
        return _is_right_never(claim[1], claim[2])
    if name == "settled":
        return _is_failing(claim[1], claim[2]) and is_settled(claim[1], claim[2])
    if name == "course":
        return _is_right_course(claim[1], list(claim[2]))
    if name == "run":
        return does_fail(claim[1], claim[2], claim[3])
    return claim[3] == chance(claim[1], claim[2])


def judge_all(claims):
    """Return the indices of those of a list of claims that do not hold."""
    return [at for at, claim in enumerate(claims) if not judge(claim)]


def _is_failing(test, row):
    return says(test, row) == "fails"


def _is_right_least(test, row, some_ledger):
    # Compared as lists of at most one row, as there may be no row that fails.
    return is_right_ledger(test[0], some_ledger) and _failing_rows(test, some_ledger)[:1] == [row]


def _is_right_never(test, some_ledger):
    return is_right_ledger(test[0], some_ledger) and _failing_rows(test, some_ledger) == []


def _failing_rows(test, some_ledger):
    return [row for value, _, row in some_ledger[0] if not holds(test[1], value)]


def _is_right_course(test, rows):
    return len(rows) > 0 and _is_failing(test, rows[0]) and rows == course(test, rows[0])
