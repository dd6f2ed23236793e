"""Lost notices: those that nobody heard, while some thread waits for their condition at the end."""

from everyturn.instructions import thing_of
from everyturn.machine import content_of, enabled
from everyturn.schedules import walk

NOTICES = ("notify", "notifyall")


def lost_notices(program, schedule):
    """Return the list of the lost notices of a possible schedule, by the indexes of their steps."""
    states, steps = walk(program, schedule)
    last = states[-1]
    if enabled(program, last) != ():
        return []
    found = []
    for state, step in zip(states, steps):
        name = _noticed(program, step)
        if name is not None and not _is_awaited(program, state, name) and _is_awaited(program, last, name):
            found.append(("lost", step[0], step[1], name))
    return found


def _noticed(program, step):
    """Return the name of the condition that a step gives notice of; None if its instruction is no notice."""
    instruction = program[1][step[0]][step[1]]
    return thing_of(instruction) if instruction[0] in NOTICES else None


def _is_awaited(program, state, cond):
    return content_of(program, state, cond) != ()
