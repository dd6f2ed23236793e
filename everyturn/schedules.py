"""Schedules: the turns of the threads, run from the first state on."""

from everyturn.errors import NotEnabled
from everyturn.machine import enabled, first_state, make_step


def run(program, schedule):
    """Return the last state of a schedule, and the tuple of its steps."""
    states, steps = walk(program, schedule)
    return states[-1], tuple(steps)


def walk(program, schedule):
    """Return the list of the states of a schedule, the first and the last one included, and that of its steps."""
    states = [first_state(program)]
    steps = []
    for at, thread in enumerate(schedule):
        if thread not in enabled(program, states[-1]):
            raise NotEnabled(at)
        state, step = make_step(program, states[-1], thread)
        states.append(state)
        steps.append(step)
    return states, steps


def switches(schedule):
    """Return how many turns of a schedule belong to another thread than the turn before."""
    return len([at for at in range(1, len(schedule)) if schedule[at] != schedule[at - 1]])
