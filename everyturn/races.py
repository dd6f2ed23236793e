"""Races: pairs of steps of different threads that use a variable, one directly behind the other."""

from everyturn.order import before, contested
from everyturn.programs import names_of

PLAIN = ("get", "put")


def race_pairs(program, steps):
    """Return the list of the pairs of steps of a row that race, rising, each with the name of the variable."""
    variables = names_of(program, "var")
    rows = before(steps)
    found = []
    for later in range(len(steps)):
        for earlier in _directly_before(rows, later):
            if _can_race(program, steps[earlier], steps[later]):
                names = contested(steps[earlier], steps[later])
                found.extend([(earlier, later, name) for name in names if name in variables])
    return sorted(found)


def races(program, steps):
    """Return the list of the races in a row of steps, in the order of its pairs."""
    return [_told(steps[earlier], steps[later], name) for earlier, later, name in race_pairs(program, steps)]


def _directly_before(rows, at):
    """Return the indexes of the steps that happen before a step, while no third step happens between."""
    further = {index: True for between in rows[at] for index in rows[between]}
    return [index for index in rows[at] if index not in further]


def _can_race(program, one, other):
    return one[0] != other[0] and (_is_plain(program, one) or _is_plain(program, other))


def _is_plain(program, step):
    thread, pc, _, _ = step
    return program[1][thread][pc][0] in PLAIN


def _told(one, other, name):
    low, high = (one, other) if one[0] < other[0] else (other, one)
    return ("race", low[0], low[1], high[0], high[1], name)
