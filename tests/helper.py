"""What several tests need: programs from short lines, and what the document says of turns, done from its words.

The functions below know nothing of the modules that they are compared with: they try everything, one by one.
"""

import random

from everyturn.machine import blocked, enabled, first_state, make_step
from everyturn.programs import read_program

THINGS = "var x = 2\nvar y = -7\nlock m\nlock n\ncond w of m\nqueue q 2\n"
ZERO = (0, 0, 0, 0)


def build(*threads, things=THINGS):
    """The program with these threads, each given as its lines with semicolons between them."""
    lines = [line.strip() for thread in threads for line in ("thread; " + thread).split(";")]
    return read_program(things + "\n".join(lines) + "\n")


def act(thread, *touches, pc=0, word=None):
    """The step of a thread with touches like "x" (read) and "x!" (written)."""
    return (thread, pc, tuple((touch.rstrip("!"), touch.endswith("!")) for touch in touches), word)


def possible(program, limit):
    """All possible schedules of at most so many steps, complete or not, as tuples (schedule, steps, state)."""
    found = [((), (), first_state(program))]
    for schedule, steps, state in found:
        if len(schedule) < limit:
            for thread in enabled(program, state):
                behind, step = make_step(program, state, thread)
                found.append((schedule + (thread,), steps + (step,), behind))
    return found


def complete(program, limit):
    """All executions, as tuples (schedule, steps, state)."""
    return [entry for entry in possible(program, limit) if len(entry[0]) == limit or not enabled(program, entry[2])]


def depend(one, other):
    """[o1]: whether two steps are dependent."""
    both = [(here[1], there[1]) for here in one[2] for there in other[2] if here[0] == there[0]]
    return one[0] == other[0] or any(here or there for here, there in both)


def happens(steps, i, j):
    """[o2]: whether a step happens before another one."""
    return i < j and (depend(steps[i], steps[j]) or
                      any(happens(steps, i, k) and happens(steps, k, j) for k in range(i + 1, j)))


def class_of(steps):
    """[o4]: all rows that exchanging neighbouring independent steps makes of a row, in the order of schedules."""
    found = {tuple(steps)}
    ahead = [tuple(steps)]
    while ahead:
        row = ahead.pop()
        for at in range(len(row) - 1):
            other = row[:at] + (row[at + 1], row[at]) + row[at + 2:]
            if not depend(row[at], row[at + 1]) and other not in found:
                found.add(other)
                ahead.append(other)
    return sorted(found, key=schedule_of)


def schedule_of(steps):
    return tuple(step[0] for step in steps)


def pairs_by_trying(program, steps):
    """[f3]: the pairs of steps that race, as those that are dependent neighbours in some equivalent row."""
    variables = [thing[1] for thing in program[0] if thing[0] == "var"]
    own = numbered(steps)
    found = set()
    for row in class_of(steps):
        known = numbered(row)
        for at in range(len(row) - 1):
            one, other = row[at], row[at + 1]
            plain = [step for step in (one, other) if program[1][step[0]][step[1]][0] in ("get", "put")]
            if one[0] != other[0] and plain and depend(one, other):
                names = [touch[0] for touch in one[2] if touch[0] in dict(other[2])]
                found.update((own.index(known[at]), own.index(known[at + 1]), name)
                             for name in names if name in variables)
    return sorted(found)


def numbered(row):
    """For each step of a row its thread, and how many steps of this thread stand before it."""
    threads = [step[0] for step in row]
    return [(thread, threads[:at].count(thread)) for at, thread in enumerate(threads)]


def races_by_trying(program, steps):
    """The races of a row, told as [f3] says."""
    return [("race", *min(steps[i], steps[j])[:2], *max(steps[i], steps[j])[:2], name)
            for i, j, name in pairs_by_trying(program, steps)]


def lost_by_trying(program, schedule):
    """The lost notices of a schedule, by the words of [f4]."""
    state = first_state(program)
    unheard = []
    for thread in schedule:
        pc = state[4][thread][0]
        instruction = program[1][thread][pc]
        if instruction[0] in ("notify", "notifyall") and instruction[1] not in awaited(program, state):
            unheard.append(("lost", thread, pc, instruction[1]))
        state = make_step(program, state, thread)[0]
    if enabled(program, state):
        return []
    return [told for told in unheard if told[3] in awaited(program, state)]


def awaited(program, state):
    """The conditions that some thread waits for, told by the threads themselves."""
    return [program[1][thread][entry[0]][1] for thread, entry in enumerate(state[4]) if entry[2] == "wait"]


def blocks_by_trying(program, steps):
    """The blocks of a row as tuples of indexes, by the words of [b1]."""
    words = [program[1][step[0]][step[1]][0] for step in steps]
    found = []
    for begin, word in enumerate(words):
        if word == "begin":
            own = [at for at in range(begin, len(steps)) if steps[at][0] == steps[begin][0]]
            ends = [at for at in own if words[at] == "end"]
            found.append(tuple(own[:own.index(ends[0]) + 1] if ends else own))
    return found


def broken_by_trying(program, steps):
    """The broken blocks of a row, by the words of [b1]."""
    found = []
    for block in blocks_by_trying(program, steps):
        for at, step in enumerate(steps):
            between = (any(happens(steps, i, at) for i in block) and any(happens(steps, at, i) for i in block))
            if between and step[0] != steps[block[0]][0]:
                found.append(("broken", *steps[block[0]][:2], *step[:2]))
    return found


KINDS = ["failure", "deadlock", "race", "lost", "broken"]


def rank_of_fault(fault):
    """[f5]: the kinds in their order, faults of one kind by their tuples."""
    return KINDS.index(fault[0]), fault


def faults_by_trying(program, schedule, steps, state):
    """The faults of a schedule, by the words of [f1] to [b1], in the order of [f5]."""
    found = {("failure", step[0], step[1], step[3]) for step in steps if step[3] is not None}
    if blocked(program, state) and not enabled(program, state):
        found.add(("deadlock", blocked(program, state)))
    found.update(races_by_trying(program, steps))
    found.update(lost_by_trying(program, schedule))
    found.update(broken_by_trying(program, steps))
    return sorted(found, key=rank_of_fault)


def finds_by_trying(program, limit):
    """[f6]: the finds of a program, from all its executions and their classes."""
    found = {}
    for schedule, steps, state in complete(program, limit):
        for fault in faults_by_trying(program, schedule, steps, state):
            found.setdefault(fault, set()).add(schedule_of(class_of(steps)[0]))
    return [(fault, min(found[fault])) for fault in sorted(found, key=rank_of_fault)]


def spans_by_trying(program, thread, name):
    """[r1], [r4]: the spans of a thread that can be guarded and are for a variable, or for any with the name None."""
    rows = program[1][thread]
    found = []
    for first in range(len(rows)):
        for last in range(first, len(rows)):
            kinds = all(row[0] in ("let", "get", "put", "add", "check") for row in rows[first:last + 1])
            led_to = [row[1] for row in rows if row[0] == "go" and row[1] in range(first + 1, last + 1)]
            names = all(at[0] in ("get", "put", "add") and name == (at[2] if at[0] == "get" else at[1])
                        for at in (rows[first], rows[last]))
            if kinds and not led_to and (names or name is None):
                found.append((first, last))
    return found


def random_row(number, threads=3, length=7):
    """A row of steps that belongs to no program, another one for each number."""
    chance = random.Random(number)
    row = []
    for at in range(chance.randint(0, length)):
        names = chance.sample(["e", "f", "g"], chance.choice([0, 1, 1, 1, 2]))
        row.append(act(chance.randrange(threads), *[name + chance.choice(["", "!"]) for name in names], pc=at))
    return tuple(row)


PLAIN_LINES = ("get a x", "get b y", "put x a + 1", "put y 3", "add x 1", "let a = a + 1", "go 1 if a = 0")
OTHER_LINES = ("add y 98", "lock m", "lock n", "unlock m", "unlock n", "wait w", "notify w", "notify all w", "send q a",
               "take b q", "check a < 1", "stop", "lock m; wait w", "lock m; put x 1; unlock m",
               "lock m; get a x; unlock m", "lock m; notify w; unlock m", "lock n; lock m")
NOTICE_LINES = ("lock m; wait w; unlock m", "lock m; wait w", "notify w", "notify all w", "lock m; notify w; unlock m")


def random_program(number):
    """A program of two or three short threads, another one for each number."""
    chance = random.Random(number)
    threads = chance.choice([2, 2, 3])
    lines = chance.choice([PLAIN_LINES, PLAIN_LINES + OTHER_LINES, NOTICE_LINES + OTHER_LINES])
    texts = ["; ".join(chance.choices(lines, k=chance.randint(1, 6 - threads))) for _ in range(threads)]
    return build(*texts, things="var x = 0\nvar y = 2\nlock m\nlock n\ncond w of m\nqueue q 1\n")


# Programs that have each kind of instruction, fault and end among them, small enough to try everything.
PROGRAMS = [random_program(number) for number in range(120)] + [
    build("get a x; put x a + 1", "get a x; put x a + 1"),
    build("lock m; lock n", "lock n; lock m"),
    build("lock m; wait w; unlock m", "notify w; lock m; notify w; unlock m"),
    build("lock m; wait w; unlock m", "lock m; wait w; unlock m", "notify all w"),
    build("send q 1; send q 2; send q 3", "take a q; take b q"),
    build("put x 1; get a y", "put y 1; get a x"),
    build("add x 1; go 0", "add y 1; check a < 0"),
    build("let a = 1; let b = 2", "let a = 1", "let a = 1; let b = 2"),
    build("take a q", "take a q"),
    build("lock m; lock m", "put x 99 + 1", "unlock m"),
    build("go 0", "go 0", things=""),
]
LIMIT = 6

BLOCK_LINES = ("begin; get a x; put x a + 1; end", "begin; put x 1; add x 1; end", "begin; put y 1; put x 2; end",
               "add x 1; get a y", "begin; let a = a + 1; add x 1; go 1 if a < 2; end", "put x 3", "get b x",
               "begin; add x 1; go 0 if a < 2; end", "lock m; begin; unlock m; add x 1; end", "send q 1; add x 1",
               "go 2; begin; add x 1; end", "begin; add x 1; go 5; end; begin; end", "begin; get a x; check a < 2; end",
               "begin; take a q; add x 1; end")


def random_block_program(number):
    """A program of two or three short threads with blocks, another one for each number."""
    chance = random.Random(number)
    threads = chance.choice([2, 2, 3])
    texts = ["; ".join(chance.choices(BLOCK_LINES, k=chance.randint(1, 2))) for _ in range(threads)]
    return build(*texts, things="var x = 0\nvar y = 2\nlock m\nqueue q 1\n")


BLOCK_PROGRAMS = [random_block_program(number) for number in range(60)]


GUARDED_LINES = ("get a x", "put x a + 1", "get a x; put x a + 1", "add x 1", "let a = a + 1", "go 1 if a = 0",
                 "get b x", "check a < 2", "get b y; put y b", "put x 1", "lock m; put x 3; unlock m", "send q a",
                 "take b q")


def random_guarded_program(number):
    """A program of two or three short threads with room for one more lock, another one for each number."""
    chance = random.Random(number)
    threads = chance.choice([2, 2, 3])
    lines = GUARDED_LINES[:chance.choice([8, 13])]
    texts = ["; ".join(chance.choices(lines, k=chance.randint(1, 5 - threads))) for _ in range(threads)]
    return build(*texts, things="var x = 0\nvar y = 2\nlock m\nqueue q 1\n")


GUARDED_PROGRAMS = [random_guarded_program(number) for number in range(60)]
