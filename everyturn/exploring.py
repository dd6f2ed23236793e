"""Exploring: the search that tries each class of turns once, by its least schedule."""

from everyturn.classes import stays_least
from everyturn.errors import TooMany
from everyturn.machine import enabled, first_state, make_step


def tried(program, limit, most):
    """Return the list of the least schedules of at most so many steps, each with its steps and its last state."""
    return begun_by(program, limit, most, [first_entry(program)])


def first_entry(program):
    """Return the empty schedule, with its steps and its last state."""
    return (), (), first_state(program)


def begun_by(program, limit, most, starts, kept=0):
    """Return the list of some least schedules and all that they begin, each of them with what it begins behind it.

    So many other ones are kept already, and count.
    """
    found = []
    # The last one ahead is tried first.
    ahead = starts[::-1]
    while ahead != []:
        # What is ahead is all of it least schedules, so it counts before it is tried.
        if kept + len(found) + len(ahead) > most:
            raise TooMany(most)
        entry = ahead.pop()
        found.append(entry)
        if len(entry[0]) < limit:
            ahead.extend(_one_step_longer(program, entry)[::-1])
    return found


def _one_step_longer(program, entry):
    """Return the least schedules that a least schedule begins and that have one step more, by their threads."""
    threads = enabled(program, entry[2])
    return [longer for thread in threads for longer in longer_by(program, entry, thread)]


def longer_by(program, entry, thread):
    """Return the list with a least schedule that is one step longer by an enabled thread; empty if it is not least."""
    schedule, steps, state = entry
    behind, step = make_step(program, state, thread)
    return [(schedule + (thread,), steps + (step,), behind)] if stays_least(steps, step) else []


def executions(program, limit, most):
    """Return the list of those of the least schedules that are executions."""
    return complete_among(program, limit, tried(program, limit, most))


def complete_among(program, limit, entries):
    """Return the list of those of some schedules that are complete."""
    return [entry for entry in entries if len(entry[0]) == limit or enabled(program, entry[2]) == ()]
