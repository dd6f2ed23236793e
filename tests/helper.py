"""What several tests need: programs from short lines, and what the document says of turns, done from its words.

The functions below know nothing of the modules that they are compared with: they try everything, one by one.
"""

import random

from everyturn.machine import enabled, first_state, make_step
from everyturn.programs import read_program

THINGS = "var x = 2\nvar y = -7\nlock m\nlock n\ncond w of m\nqueue q 2\n"
ZERO = (0, 0, 0, 0)


def build(*threads, things=THINGS):
    """The program with these threads, each given as its lines with semicolons between them."""
    lines = [line.strip() for thread in threads for line in ("thread; " + thread).split(";")]
    return read_program(things + "\n".join(lines) + "\n")


def act(thread, *touches, pc=0, word=None):
    """The step of a thread with touches like "x" (read) and "x!" (written)."""
    return (thread, pc, tuple((touch.rstrip("!"), touch.endswith("!")) for touch in touches), word)


def possible(program, limit):
    """All possible schedules of at most so many steps, complete or not, as tuples (schedule, steps, state)."""
    found = [((), (), first_state(program))]
    for schedule, steps, state in found:
        if len(schedule) < limit:
            for thread in enabled(program, state):
                behind, step = make_step(program, state, thread)
                found.append((schedule + (thread,), steps + (step,), behind))
    return found


def complete(program, limit):
    """All executions, as tuples (schedule, steps, state)."""
    return [entry for entry in possible(program, limit) if len(entry[0]) == limit or not enabled(program, entry[2])]


def depend(one, other):
    """[o1]: whether two steps are dependent."""
    both = [(here[1], there[1]) for here in one[2] for there in other[2] if here[0] == there[0]]
    return one[0] == other[0] or any(here or there for here, there in both)


def happens(steps, i, j):
    """[o2]: whether a step happens before another one."""
    return i < j and (depend(steps[i], steps[j]) or
                      any(happens(steps, i, k) and happens(steps, k, j) for k in range(i + 1, j)))


def class_of(steps):
    """[o4]: all rows that exchanging neighbouring independent steps makes of a row, in the order of schedules."""
    found = {tuple(steps)}
    ahead = [tuple(steps)]
    while ahead:
        row = ahead.pop()
        for at in range(len(row) - 1):
            other = row[:at] + (row[at + 1], row[at]) + row[at + 2:]
            if not depend(row[at], row[at + 1]) and other not in found:
                found.add(other)
                ahead.append(other)
    return sorted(found, key=schedule_of)


def schedule_of(steps):
    return tuple(step[0] for step in steps)


def random_row(number, threads=3, length=7):
    """A row of steps that belongs to no program, another one for each number."""
    chance = random.Random(number)
    row = []
    for at in range(chance.randint(0, length)):
        names = chance.sample(["e", "f", "g"], chance.choice([0, 1, 1, 1, 2]))
        row.append(act(chance.randrange(threads), *[name + chance.choice(["", "!"]) for name in names], pc=at))
    return tuple(row)


PLAIN_LINES = ("get a x", "get b y", "put x a + 1", "put y 3", "add x 1", "let a = a + 1", "go 1 if a = 0")
OTHER_LINES = ("add y 98", "lock m", "lock n", "unlock m", "unlock n", "wait w", "notify w", "notify all w", "send q a",
               "take b q", "check a < 1", "stop", "lock m; wait w", "lock m; put x 1; unlock m",
               "lock m; get a x; unlock m", "lock m; notify w; unlock m", "lock n; lock m")
NOTICE_LINES = ("lock m; wait w; unlock m", "lock m; wait w", "notify w", "notify all w", "lock m; notify w; unlock m")


def random_program(number):
    """A program of two or three short threads, another one for each number."""
    chance = random.Random(number)
    threads = chance.choice([2, 2, 3])
    lines = chance.choice([PLAIN_LINES, PLAIN_LINES + OTHER_LINES, NOTICE_LINES + OTHER_LINES])
    texts = ["; ".join(chance.choices(lines, k=chance.randint(1, 6 - threads))) for _ in range(threads)]
    return build(*texts, things="var x = 0\nvar y = 2\nlock m\nlock n\ncond w of m\nqueue q 1\n")


# Programs that have each kind of instruction, fault and end among them, small enough to try everything.
PROGRAMS = [random_program(number) for number in range(120)] + [
    build("get a x; put x a + 1", "get a x; put x a + 1"),
    build("lock m; lock n", "lock n; lock m"),
    build("lock m; wait w; unlock m", "notify w; lock m; notify w; unlock m"),
    build("lock m; wait w; unlock m", "lock m; wait w; unlock m", "notify all w"),
    build("send q 1; send q 2; send q 3", "take a q; take b q"),
    build("put x 1; get a y", "put y 1; get a x"),
    build("add x 1; go 0", "add y 1; check a < 0"),
    build("let a = 1; let b = 2", "let a = 1", "let a = 1; let b = 2"),
    build("take a q", "take a q"),
    build("lock m; lock m", "put x 99 + 1", "unlock m"),
    build("go 0", "go 0", things=""),
]
LIMIT = 6
