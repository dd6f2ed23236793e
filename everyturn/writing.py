"""Writing: the normal text of a program, and the line of an instruction."""

from everyturn.expressions import write_expression
from everyturn.instructions import FORMS, PLACES, PLAIN_GO
from everyturn.programs import THING_FORMS


def write_program(program):
    """Return the normal text of a program."""
    shared, threads = program
    lines = [_write_by(THING_FORMS, thing) for thing in shared]
    for instructions in threads:
        lines.append("thread")
        lines.extend([write_instruction(instruction) for instruction in instructions])
    return "".join([line + "\n" for line in lines])


def write_instruction(instruction):
    """Return the line of an instruction, without a newline."""
    if instruction[0] == "go" and instruction[2] is None:
        return _fill(PLAIN_GO, instruction[1:2])
    return _write_by(FORMS, instruction)


def _write_by(forms, item):
    own = [form for word, form in forms if word == item[0]]
    return _fill(own[0], item[1:])


def _fill(form, worths):
    """Write what stands in the places of a form, in their order, into these places."""
    words = []
    at = 0
    for place in form.split():
        if place in PLACES:
            words.append(write_expression(worths[at]) if place == "E" else str(worths[at]))
            at += 1
        else:
            words.append(place)
    return " ".join(words)
