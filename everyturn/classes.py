"""Classes: rows of steps that differ in the order of independent steps alone.

The rows of a class are made anew from the steps of each thread, which keep their order: a row is told by how many
steps of each thread are done, and a thread can go on if all that happens before its next step is done.
"""

from everyturn.errors import TooMany
from everyturn.order import clocks, dependent


def least(steps):
    """Return the tuple of the steps of the least row of a row's class."""
    parts = _parts_of_threads(steps)
    done = (0,) * len(parts)
    found = []
    for _ in range(len(steps)):
        thread, behind = _ways_on(parts, done)[0]
        found.append(parts[thread][done[thread]][0])
        done = behind
    return tuple(found)


def is_least(steps):
    """Tell whether a row is the least one of its class."""
    return least(steps) == tuple(steps)


def stays_least(steps, step):
    """Tell whether a row that is the least one of its class is so with one more step behind it, too."""
    for other in reversed(steps):
        if dependent(other, step):
            return True
        # The step could stand ahead of this one, with the schedule of a lesser row.
        if other[0] > step[0]:
            return False
    return True


def equivalent(one, other):
    """Tell whether two rows are equivalent."""
    return least(one) == least(other)


def class_size(steps):
    """Return how many rows the class of a row has."""
    parts = _parts_of_threads(steps)
    # What can follow depends on what is done, not on its order, so the rows that did the same are counted together.
    counts = {(0,) * len(parts): 1}
    for _ in range(len(steps)):
        more = {}
        for done, count in counts.items():
            for _, behind in _ways_on(parts, done):
                more[behind] = more.get(behind, 0) + count
        counts = more
    return sum(counts.values())


def rows_of_class(steps, most):
    """Return the list of the schedules of all rows of a row's class, rising."""
    if class_size(steps) > most:
        raise TooMany(most)
    parts = _parts_of_threads(steps)
    rows = [((), (0,) * len(parts))]
    for _ in range(len(steps)):
        rows = [
            (schedule + (thread,), behind) for schedule, done in rows for thread, behind in _ways_on(parts, done)
        ]
    return [schedule for schedule, done in rows]


def _parts_of_threads(steps):
    """Return for each thread the list of its steps in a row, each with its clock."""
    threads = max([step[0] + 1 for step in steps], default=0)
    pairs = list(zip(steps, clocks(steps, threads)))
    return [[(step, clock) for step, clock in pairs if step[0] == thread] for thread in range(threads)]


def _ways_on(parts, done):
    """Return the threads that can go on, rising, each with how many steps of each thread are done behind its step."""
    found = []
    for thread, part in enumerate(parts):
        if done[thread] < len(part):
            behind = done[:thread] + (done[thread] + 1,) + done[thread + 1:]
            clock = part[done[thread]][1]
            if all([needed <= count for needed, count in zip(clock, behind)]):
                found.append((thread, behind))
    return found
