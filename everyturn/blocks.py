"""Blocks: what a thread means to do at once, and the steps of other threads that come between."""

from everyturn.order import before


def block_steps(program, steps):
    """Return the list of the blocks of a row, by their first indexes, each as the tuple of its steps' indexes."""
    begins = [at for at, step in enumerate(steps) if _word_of(program, step) == "begin"]
    return [_block_from(program, steps, begin) for begin in begins]


def broken_blocks(program, steps):
    """Return the list of the broken blocks of a row, by the blocks, then by the steps that break them."""
    rows = before(steps)
    found = []
    for block in block_steps(program, steps):
        thread, pc = steps[block[0]][:2]
        # The steps of a thread happen one before the other, so the first and the last one of a block stand for all.
        for index in rows[block[-1]]:
            if steps[index][0] != thread and block[0] in rows[index]:
                found.append(("broken", thread, pc, steps[index][0], steps[index][1]))
    return found


def _block_from(program, steps, begin):
    """Return the indexes of the steps of the block that begins at an index."""
    found = []
    for at in range(begin, len(steps)):
        if steps[at][0] == steps[begin][0]:
            found.append(at)
            if _word_of(program, steps[at]) == "end":
                return tuple(found)
    return tuple(found)


def _word_of(program, step):
    """Return the word of the instruction of a step."""
    return program[1][step[0]][step[1]][0]
