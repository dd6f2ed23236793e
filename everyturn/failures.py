"""Failures and deadlocks of an execution, and the rings of threads that are blocked on one another's locks."""

from everyturn.machine import blocked, content_of, is_deadlock
from everyturn.programs import kind_of


def failures(steps):
    """Return the list of the failures in a row of steps."""
    return [("failure", thread, pc, word) for thread, pc, _, word in steps if word is not None]


def deadlocks(program, state):
    """Return the list with the deadlock of a state; the empty one if it is none."""
    return [("deadlock", blocked(program, state))] if is_deadlock(program, state) else []


def rings(program, state):
    """Return the list of the rings of a state, by their first threads."""
    locks = [(thread, name) for thread, name in blocked(program, state) if kind_of(program, name) == "lock"]
    owners = {thread: content_of(program, state, name) for thread, name in locks}
    found = [_ring_from(owners, thread) for thread, _ in locks]
    # Each thread of a ring leads to it, but it begins with its least one.
    return [ring for ring in found if ring != () and ring[0] == min(ring)]


def _ring_from(owners, first):
    """Return the ring from a thread on that is blocked on a lock; the empty tuple if the thread is in none."""
    ring = (first,)
    following = owners[first]
    while following in owners and following not in ring:
        ring = ring + (following,)
        following = owners[following]
    return ring if following == first else ()
