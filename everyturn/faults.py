"""Faults: all that one execution has, and all that the executions of a program have."""

from everyturn.blocks import broken_blocks
from everyturn.exploring import executions
from everyturn.failures import deadlocks, failures
from everyturn.notices import lost_notices
from everyturn.races import races
from everyturn.schedules import run

KINDS = ("failure", "deadlock", "race", "lost", "broken")


def faults_of(program, schedule):
    """Return the sorted list of the faults of a possible schedule, each once."""
    state, steps = run(program, schedule)
    return _in_order(_faults_in(program, schedule, steps, state))


def finds(program, limit, most):
    """Return the list of all faults that some execution has, sorted, each with the first least schedule that has it."""
    return finds_among(program, executions(program, limit, most))


def finds_among(program, entries):
    """Return the finds of a program from the list of its executions that are least schedules."""
    found = {}
    for schedule, steps, state in entries:
        for fault in _faults_in(program, schedule, steps, state):
            # The executions come in the order of tuples, so the first schedule stays.
            found.setdefault(fault, schedule)
    return [(fault, found[fault]) for fault in _in_order(list(found))]


def _faults_in(program, schedule, steps, state):
    """Return the list of the faults of a schedule with its steps and its last state, some perhaps more than once."""
    of_steps = failures(steps) + races(program, steps) + broken_blocks(program, steps)
    return of_steps + deadlocks(program, state) + lost_notices(program, schedule)


def _in_order(faults):
    """Return the list of some faults, sorted, each once."""
    return sorted({fault: True for fault in faults}, key=_rank)


def _rank(fault):
    return (KINDS.index(fault[0]), fault)
