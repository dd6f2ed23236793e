"""Counting: the number of all executions, without trying them."""

from everyturn.machine import enabled, first_state, make_step


def count_executions(program, limit):
    """Return the number of all executions of at most so many steps."""
    # Schedules that lead to the same state go on alike, so they are counted together.
    counts = {first_state(program): 1}
    known = {}
    complete = 0
    for _ in range(limit):
        more = {}
        for state, count in counts.items():
            if state not in known:
                known[state] = _states_behind(program, state)
            if known[state] == []:
                complete += count
            for behind in known[state]:
                more[behind] = more.get(behind, 0) + count
        counts = more
    return complete + sum(counts.values())


def _states_behind(program, state):
    """Return the list of the states behind the steps that can be made, one for each enabled thread."""
    return [make_step(program, state, thread)[0] for thread in enabled(program, state)]
