"""The judge: whether a paper of safety is right, told from its states alone, without exploring."""

from everyturn.machine import enabled, first_state, is_deadlock, make_step


def judge(program, paper):
    """Return None if a paper is right, otherwise its first fault."""
    listed = {state: True for state in paper}
    if first_state(program) not in listed:
        return ("first",)
    again = _first_again(paper)
    if again is not None:
        return ("twice", again)
    for at, state in enumerate(paper):
        fault = _fault_of(program, listed, at, state)
        if fault is not None:
            return fault
    return None


def _first_again(paper):
    """Return the least index of a state that stood in the paper before; None if there is none."""
    seen = set()
    for at, state in enumerate(paper):
        if state in seen:
            return at
        seen.add(state)
    return None


def _fault_of(program, listed, at, state):
    for thread in enabled(program, state):
        behind, step = make_step(program, state, thread)
        if step[3] is not None:
            return ("failure", at, thread)
        if behind not in listed:
            return ("step", at, thread)
    return ("deadlock", at) if is_deadlock(program, state) else None
