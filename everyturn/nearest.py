"""Nearest schedules: the shortest way to a failure or a deadlock, with the fewest switches."""

from everyturn.failures import deadlocks, failures
from everyturn.machine import enabled, first_state, make_step
from everyturn.schedules import run


def leads_to(program, schedule, place):
    """Tell whether a possible schedule leads to a failure or a deadlock."""
    state, steps = run(program, schedule)
    return _is_at(program, steps[-1:], state, place)


def _is_at(program, last, state, place):
    """Tell whether a schedule leads to a place, by the tuple of its last step, if it has one, and its last state."""
    return place in (failures(last) if place[0] == "failure" else deadlocks(program, state))


def nearest(program, place, limit):
    """Return the nearest schedule of a place within a limit of steps; None if there is none."""
    first = first_state(program)
    if _is_at(program, (), first, place):
        return ()
    known = {first: True}
    # For each state that was reached, by its last thread, the best schedule there behind the number of its switches.
    reached = {first: {None: (0, ())}}
    for _ in range(limit):
        ways = _one_step_longer(program, reached)
        led = [rank for rank, step, state in ways if _is_at(program, (step,), state, place)]
        if led != []:
            return min(led)[1]
        # What a state leads to is nearer by a schedule that reached it with fewer steps.
        reached = _best_of([way for way in ways if way[2] not in known])
        for state in reached:
            known[state] = True
    return None


def _one_step_longer(program, reached):
    """Return the list of the ways on from the states: the schedule behind its switches, its last step, its state."""
    found = []
    for state, ranks in reached.items():
        for thread in enabled(program, state):
            behind, step = make_step(program, state, thread)
            count, schedule = min([_with_switch(last, rank, thread) for last, rank in ranks.items()])
            found.append(((count, schedule + (thread,)), step, behind))
    return found


def _with_switch(last, rank, thread):
    """Return the switches and the schedule of a rank, with one more switch if another thread comes behind it."""
    count, schedule = rank
    return (count if last is None or last == thread else count + 1), schedule


def _best_of(ways):
    """Return for each state, by its last thread, the best of the schedules there behind the number of its switches."""
    found = {}
    for rank, step, state in ways:
        ranks = found.setdefault(state, {})
        ranks[step[0]] = min(rank, ranks.get(step[0], rank))
    return found
