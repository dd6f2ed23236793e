"""Papers of safety: all states that a program without failures and deadlocks can come to."""

from everyturn.errors import TooMany
from everyturn.machine import enabled, first_state, is_deadlock, make_step


def paper_of(program, limit):
    """Return the paper of a program, of at most so many states; None if it has a failure or a deadlock."""
    paper = []
    known = {}
    ways = [(first_state(program), None)]
    done = 0
    while True:
        for state, word in ways:
            if word is not None:
                return None
            if state not in known:
                if is_deadlock(program, state):
                    return None
                if len(paper) == limit:
                    raise TooMany(limit)
                known[state] = True
                paper.append(state)
        if done == len(paper):
            return paper
        ways = _ways_on(program, paper[done])
        done += 1


def _ways_on(program, state):
    """Return the states behind the steps of the enabled threads, rising, each with the word of its failure, or None."""
    made = [make_step(program, state, thread) for thread in enabled(program, state)]
    return [(behind, step[3]) for behind, step in made]
