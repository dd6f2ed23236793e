"""The machine: the states of a program, the threads that are enabled in them, and the steps that these make."""

from everyturn.expressions import RANGE, REGISTERS, evaluate
from everyturn.instructions import expression_of, kind_needed, thing_of
from everyturn.programs import kind_of, lock_of, names_of
from everyturn.values import operate

# The part of a state for the things of each kind, and its last part.
PART_OF_KIND = {"var": 0, "lock": 1, "queue": 2, "cond": 3}
THREADS = 4


def first_state(program):
    """Return the state in which a program begins."""
    shared, threads = program
    return (
        tuple([thing[2] for thing in shared if thing[0] == "var"]),
        tuple([None for thing in shared if thing[0] == "lock"]),
        tuple([() for thing in shared if thing[0] == "queue"]),
        tuple([() for thing in shared if thing[0] == "cond"]),
        tuple([(0, (0, 0, 0, 0), "run", None) for instructions in threads]),
    )


def enabled(program, state):
    """Return the tuple of the enabled threads, rising."""
    threads = [thread for thread in range(len(program[1])) if _is_at_work(program, state, thread)]
    return tuple([thread for thread in threads if _hindrance(program, state, thread) is None])


def blocked(program, state):
    """Return the tuple of the blocked threads, rising, each with the name of what it is blocked on."""
    threads = [thread for thread in range(len(program[1])) if _is_at_work(program, state, thread)]
    found = [(thread, _hindrance(program, state, thread)) for thread in threads]
    return tuple([(thread, name) for thread, name in found if name is not None])


def is_deadlock(program, state):
    """Tell whether no thread is enabled, but some thread is blocked."""
    return enabled(program, state) == () and blocked(program, state) != ()


def _is_at_work(program, state, thread):
    pc, _, mode, _ = state[THREADS][thread]
    return mode != "over" and pc < len(program[1][thread])


def _hindrance(program, state, thread):
    """Return the name of what a thread at work is blocked on; None if it is enabled."""
    pc, registers, mode, _ = state[THREADS][thread]
    instruction = program[1][thread][pc]
    name = thing_of(instruction)
    if mode == "wait":
        return name
    if mode == "woken":
        name = lock_of(program, name)
    if mode == "woken" or instruction[0] == "lock":
        hinders = content_of(program, state, name) is not None
    elif instruction[0] == "send":
        hinders = _is_full(program, state, name) and evaluate(instruction[2], registers) != RANGE
    else:
        hinders = instruction[0] == "take" and content_of(program, state, name) == ()
    return name if hinders else None


def _is_full(program, state, queue):
    sizes = [thing[2] for thing in program[0] if thing[1] == queue]
    return len(content_of(program, state, queue)) >= sizes[0]


def content_of(program, state, name):
    """Return what a state has for a shared thing."""
    kind = kind_of(program, name)
    return state[PART_OF_KIND[kind]][names_of(program, kind).index(name)]


def _with_content(program, state, name, content):
    kind = kind_of(program, name)
    part = PART_OF_KIND[kind]
    return _replaced(state, part, _replaced(state[part], names_of(program, kind).index(name), content))


def _with_thread(state, thread, entry):
    return _replaced(state, THREADS, _replaced(state[THREADS], thread, entry))


def _with_mode(state, thread, mode):
    pc, registers, _, word = state[THREADS][thread]
    return _with_thread(state, thread, (pc, registers, mode, word))


def _with_register(state, thread, letter, value):
    pc, registers, mode, word = state[THREADS][thread]
    changed = _replaced(registers, REGISTERS.index(letter), value)
    return _with_thread(state, thread, (pc, changed, mode, word))


def _replaced(row, at, item):
    return row[:at] + (item,) + row[at + 1:]


def make_step(program, state, thread):
    """Return the state behind the step of an enabled thread, and the step."""
    pc, registers, mode, _ = state[THREADS][thread]
    instruction = program[1][thread][pc]
    if mode == "woken":
        return _take_lock_again(program, state, thread)
    tree = expression_of(instruction)
    value = None if tree is None else evaluate(tree, registers)
    if value == RANGE:
        return _failed(state, thread, RANGE), (thread, pc, (), RANGE)
    changed, word = _effect(program, state, thread, value)
    if word is None:
        behind = _moved_on(program, changed, thread, value)
    else:
        behind = _failed(state, thread, word)
    return behind, (thread, pc, _touches(program, instruction), word)


def _take_lock_again(program, state, thread):
    pc = state[THREADS][thread][0]
    cond = program[1][thread][pc][1]
    lock = lock_of(program, cond)
    owned = _with_mode(_with_content(program, state, lock, thread), thread, "run")
    # The condition is read, so that this step is not exchanged with the notice that woke the thread.
    return _moved_to(program, owned, thread, pc + 1), (thread, pc, ((lock, True), (cond, False)), None)


def _failed(state, thread, word):
    pc, registers, _, _ = state[THREADS][thread]
    return _with_thread(state, thread, (pc, registers, "over", word))


def _touches(program, instruction):
    name = thing_of(instruction)
    if name is None:
        return ()
    if instruction[0] == "wait":
        return ((lock_of(program, name), True), (name, True))
    return ((name, instruction[0] != "get"),)


def _moved_on(program, state, thread, value):
    """Return the state with a thread that has done its instruction at the place where it goes on."""
    pc = state[THREADS][thread][0]
    instruction = program[1][thread][pc]
    if instruction[0] == "wait":
        return _with_mode(state, thread, "wait")
    # A `go` without an expression has the value None, which is not 0 either.
    if instruction[0] == "go" and value != 0:
        return _moved_to(program, state, thread, instruction[1])
    moved = _moved_to(program, state, thread, pc + 1)
    return _with_mode(moved, thread, "over") if instruction[0] == "stop" else moved


def _moved_to(program, state, thread, pc):
    _, registers, mode, word = state[THREADS][thread]
    at_end = pc == len(program[1][thread])
    return _with_thread(state, thread, (pc, registers, "over" if at_end else mode, word))


def _effect(program, state, thread, value):
    """Return the state with the things and registers as the instruction makes them, and the word of a failure."""
    instruction = program[1][thread][state[THREADS][thread][0]]
    kind = kind_needed(instruction)
    if kind == "var":
        return _use_variable(program, state, thread, instruction, value)
    if kind == "lock":
        return _use_lock(program, state, thread, instruction)
    if kind == "cond":
        return _use_condition(program, state, thread, instruction)
    if kind == "queue":
        return _use_queue(program, state, thread, instruction, value)
    if instruction[0] == "let":
        return _with_register(state, thread, instruction[1], value), None
    if instruction[0] == "check" and value == 0:
        return state, "check"
    return state, None


def _use_variable(program, state, thread, instruction, value):
    name = thing_of(instruction)
    held = content_of(program, state, name)
    if instruction[0] == "get":
        return _with_register(state, thread, instruction[1], held), None
    result = value if instruction[0] == "put" else operate("+", held, value)
    if result is None:
        return state, RANGE
    return _with_content(program, state, name, result), None


def _use_lock(program, state, thread, instruction):
    name = thing_of(instruction)
    if instruction[0] == "lock":
        return _with_content(program, state, name, thread), None
    if content_of(program, state, name) != thread:
        return state, "owner"
    return _with_content(program, state, name, None), None


def _use_condition(program, state, thread, instruction):
    name = thing_of(instruction)
    waiting = content_of(program, state, name)
    if instruction[0] == "wait":
        lock = lock_of(program, name)
        if content_of(program, state, lock) != thread:
            return state, "owner"
        free = _with_content(program, state, lock, None)
        return _with_content(program, free, name, waiting + (thread,)), None
    many = 1 if instruction[0] == "notify" else len(waiting)
    changed = _with_content(program, state, name, waiting[many:])
    for other in waiting[:many]:
        changed = _with_mode(changed, other, "woken")
    return changed, None


def _use_queue(program, state, thread, instruction, value):
    name = thing_of(instruction)
    items = content_of(program, state, name)
    if instruction[0] == "send":
        return _with_content(program, state, name, items + (value,)), None
    taken = _with_content(program, state, name, items[1:])
    return _with_register(taken, thread, instruction[1], items[0]), None
