"""Showing: the state of a program as one line."""

from everyturn.machine import THREADS, content_of

NOBODY = "-"


def show_state(program, state):
    """Return the line of a state."""
    things = [f"{thing[1]}={_show_content(content_of(program, state, thing[1]))}" for thing in program[0]]
    threads = [f" | {thread}:{_show_thread(entry)}" for thread, entry in enumerate(state[THREADS])]
    return " ".join(things) + "".join(threads)


def _show_content(content):
    if content is None:
        return NOBODY
    if isinstance(content, tuple):
        return _in_brackets(content)
    return str(content)


def _show_thread(entry):
    pc, registers, mode, word = entry
    shown = f"{pc} {_in_brackets(registers)} {mode}"
    return shown if word is None else f"{shown} {word}"


def _in_brackets(numbers):
    inner = " ".join([str(number) for number in numbers])
    return f"({inner})"
