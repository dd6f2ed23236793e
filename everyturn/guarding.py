"""Guarding: a lock around spans of the threads of a program."""

from everyturn.errors import NoSuchPlace
from everyturn.instructions import is_name, thing_of
from everyturn.programs import MOST_INSTRUCTIONS, MOST_THINGS

# The kinds of instructions that can stand between a lock and its unlock.
INNER = ("let", "get", "put", "add", "check")


def spans(program, thread, name):
    """Return the list of all spans of a thread that can be guarded and are for a variable, in the order of tuples."""
    instructions = program[1][thread]
    uses = [pc for pc, instruction in enumerate(instructions) if thing_of(instruction) == name]
    pairs = [(first, last) for first in uses for last in uses if first <= last]
    return [span for span in pairs if _can_be_guarded(instructions, span)]


def _can_be_guarded(instructions, span):
    first, last = span
    within = [instruction[0] in INNER for instruction in instructions[first:last + 1]]
    led_to = [instruction[1] for instruction in instructions if instruction[0] == "go"]
    return all(within) and not any([first < pc <= last for pc in led_to])


def guarded(program, guards, name):
    """Return the program with one more lock, which is held in the spans of some guards."""
    shared, threads = program
    if not is_name(name) or name in [thing[1] for thing in shared]:
        raise NoSuchPlace("name")
    if len(shared) >= MOST_THINGS:
        raise NoSuchPlace("shared")
    if len(guards) != len(threads):
        raise NoSuchPlace("guards")
    if not all([_fits(instructions, span) for instructions, span in zip(threads, guards)]):
        raise NoSuchPlace("guards")
    changed = [_with_lock(instructions, span, name) for instructions, span in zip(threads, guards)]
    if any([len(instructions) > MOST_INSTRUCTIONS for instructions in changed]):
        raise NoSuchPlace("many")
    return shared + (("lock", name),), tuple(changed)


def _fits(instructions, span):
    """Tell whether a span is None, or one of a thread that can be guarded."""
    if span is None:
        return True
    if not isinstance(span, tuple) or len(span) != 2 or not 0 <= span[0] <= span[1] < len(instructions):
        return False
    return _can_be_guarded(instructions, span)


def _with_lock(instructions, span, name):
    """Return the instructions of a thread with a lock around a span; the same ones without a span."""
    if span is None:
        return instructions
    first, last = span
    moved = [_led_past(instruction, last) for instruction in instructions]
    ahead, inner, behind = moved[:first], moved[first:last + 1], moved[last + 1:]
    return tuple(ahead + [("lock", name)] + inner + [("unlock", name)] + behind)


def _led_past(instruction, last):
    """Return an instruction that leads to the same one as before, when a lock stands around a span with this last pc.

    Nothing leads into the span but to its first instruction, and there the lock stands now.
    """
    if instruction[0] != "go" or instruction[1] <= last:
        return instruction
    return ("go", instruction[1] + 2, instruction[2])


def inside(guards, other):
    """Tell whether guards are inside other ones: each of their spans None or in the span for the same thread."""
    return all([_lies_in(span, wide) for span, wide in zip(guards, other)])


def _lies_in(span, wide):
    if span is None:
        return True
    return wide is not None and wide[0] <= span[0] and span[1] <= wide[1]


def cost(guards):
    """Return the number of the instructions in the spans of guards."""
    return sum([span[1] - span[0] + 1 for span in guards if span is not None])
