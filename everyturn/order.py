"""Order: which steps of a row depend on one another, and which ones happen before others."""


def dependent(one, other):
    """Tell whether two steps are dependent."""
    return one[0] == other[0] or contested(one, other) != []


def contested(one, other):
    """Return the list of the names, rising, of what two steps both touch, at least one of them in writing."""
    pairs = [(touch, same) for touch in one[2] for same in other[2] if touch[0] == same[0]]
    return sorted({touch[0] for touch, same in pairs if touch[1] or same[1]})


def before(steps):
    """Return the list that has for each step of a row the tuple of the indexes of those that happen before it."""
    found = []
    for at in range(len(steps)):
        found.append(_before_step(steps, at, found))
    return found


def _before_step(steps, at, found):
    """Return the indexes, rising, of what happens before a step, from those of the steps ahead of it."""
    earlier = set()
    for index in reversed(range(at)):
        # What happens before a later step that is known already needs no look of its own.
        if index not in earlier and dependent(steps[index], steps[at]):
            earlier.add(index)
            for further in found[index]:
                earlier.add(further)
    return tuple(sorted(earlier))


def clocks(steps, threads):
    """Return the list of the clocks of a row's steps, for so many threads."""
    found = []
    for at, earlier in enumerate(before(steps)):
        counted = [steps[index][0] for index in earlier + (at,)]
        found.append(tuple([counted.count(thread) for thread in range(threads)]))
    return found
