"""Repairs: guards that make a program safe, while nothing smaller inside of them does."""

from everyturn.errors import NoSuchPlace
from everyturn.exploring import executions
from everyturn.failures import deadlocks, failures
from everyturn.guarding import cost, guarded, inside, spans
from everyturn.programs import names_of
from everyturn.races import races


def is_safe(program, limit, most):
    """Tell whether no execution has a failure, a deadlock or a race."""
    for _, steps, state in executions(program, limit, most):
        if failures(steps) != [] or deadlocks(program, state) != [] or races(program, steps) != []:
            return False
    return True


def least_repairs(program, variable, name, limit, most):
    """Return the list of the least repairs for a variable by a lock of a name, by their costs, then as tuples."""
    if variable not in names_of(program, "var"):
        raise NoSuchPlace("variable")
    choices = [[None] + spans(program, thread, variable) for thread in range(len(program[1]))]
    greatest = sum([max([cost((span,)) for span in some]) for some in choices])
    found = []
    for price in range(greatest + 1):
        # Guards inside other ones cost less, so they are tried before.
        for guards in _guards_that_cost(choices, price):
            if not any([inside(repair, guards) for repair in found]):
                if is_safe(guarded(program, guards, name), limit, most):
                    found.append(guards)
    return found


def _guards_that_cost(choices, price):
    """Return the list of all guards that cost so much, one of the choices for each thread, in their order."""
    if choices == []:
        return [()] if price == 0 else []
    found = []
    for span in choices[0]:
        left = price - cost((span,))
        if left >= 0:
            found.extend([(span,) + others for others in _guards_that_cost(choices[1:], left)])
    return found
