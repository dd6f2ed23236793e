"""Observers: what can be seen of an execution from outside, at its end or along the way of one variable."""

from everyturn.errors import NoSuchPlace
from everyturn.exploring import executions
from everyturn.machine import PART_OF_KIND, THREADS, content_of, enabled
from everyturn.programs import names_of
from everyturn.schedules import run, walk


def outcome(program, schedule):
    """Return the outcome of a possible schedule; None if its last state is not final."""
    return _outcome_in(program, run(program, schedule)[0])


def outcomes(program, limit, most):
    """Return the list of the outcomes of a program, rising, each with the first least schedule that has it."""
    found = {}
    for schedule, _, state in executions(program, limit, most):
        seen = _outcome_in(program, state)
        if seen is not None:
            # The executions come in the order of tuples, so the first schedule stays.
            found.setdefault(seen, schedule)
    return sorted(found.items())


def _outcome_in(program, state):
    if enabled(program, state) != ():
        return None
    return state[PART_OF_KIND["var"]], tuple([_end_of(entry) for entry in state[THREADS]])


def _end_of(entry):
    _, _, mode, word = entry
    if word is not None:
        return word
    return "over" if mode == "over" else "blocked"


def history(program, schedule, name):
    """Return the tuple of the values that a variable has, one behind the other, in a possible schedule."""
    _check_variable(program, name)
    return _history_in(program, schedule, name)


def histories(program, name, limit, most):
    """Return the list of the histories that a variable can have, rising."""
    _check_variable(program, name)
    return sorted({_history_in(program, entry[0], name) for entry in executions(program, limit, most)})


def _check_variable(program, name):
    if name not in names_of(program, "var"):
        raise NoSuchPlace("name")


def _history_in(program, schedule, name):
    states, steps = walk(program, schedule)
    found = [content_of(program, states[0], name)]
    for behind, step in zip(states[1:], steps):
        if (name, True) in step[2] and step[3] is None:
            found.append(content_of(program, behind, name))
    return tuple(found)


def difference(one, other, limit, most):
    """Return the first outcome that one of two programs has alone: which one, the outcome, its schedule; or None."""
    of_one = dict(outcomes(one, limit, most))
    of_other = dict(outcomes(other, limit, most))
    apart = [(seen, 1, of_one[seen]) for seen in of_one if seen not in of_other]
    apart.extend([(seen, 2, of_other[seen]) for seen in of_other if seen not in of_one])
    if apart == []:
        return None
    seen, which, schedule = min(apart)
    return which, seen, schedule
