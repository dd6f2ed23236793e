"""Exploring: the search that tries each class of turns once, by its least schedule."""

from everyturn.classes import stays_least
from everyturn.errors import TooMany
from everyturn.machine import enabled, first_state, make_step


def tried(program, limit, most):
    """Return the list of the least schedules of at most so many steps, each with its steps and its last state."""
    found = []
    ahead = [((), (), first_state(program))]
    while ahead != []:
        # What is ahead is all of it least schedules, so it counts before it is tried.
        if len(found) + len(ahead) > most:
            raise TooMany(most)
        entry = ahead.pop()
        found.append(entry)
        if len(entry[0]) < limit:
            # The last one ahead is tried first, so the lowest thread comes last.
            ahead.extend(_one_step_longer(program, entry)[::-1])
    return found


def _one_step_longer(program, entry):
    """Return the least schedules that a least schedule begins and that have one step more, by their threads."""
    schedule, steps, state = entry
    found = []
    for thread in enabled(program, state):
        behind, step = make_step(program, state, thread)
        if stays_least(steps, step):
            found.append((schedule + (thread,), steps + (step,), behind))
    return found


def executions(program, limit, most):
    """Return the list of those of the least schedules that are executions."""
    entries = tried(program, limit, most)
    return [entry for entry in entries if len(entry[0]) == limit or enabled(program, entry[2]) == ()]
