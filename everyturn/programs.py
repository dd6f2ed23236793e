"""Programs: read from a text, and asked for their shared things."""

from everyturn.errors import NoSuchPlace, ProgramFault
from everyturn.instructions import is_name, kind_needed, read_instruction, read_one_of, thing_of
from everyturn.tokens import tokens

MOST_THINGS = 6
MOST_THREADS = 4
MOST_INSTRUCTIONS = 12
LEAST_SIZE = 1
GREATEST_SIZE = 3

THING_FORMS = (("var", "var X = V"), ("lock", "lock X"), ("cond", "cond X of X"), ("queue", "queue X N"))
THREAD = ("thread",)
THREAD_LINE = [("word", "thread")]


def read_program(text):
    """Return the program of a text."""
    rows = [tokens(line) for line in text.split("\n")]
    shared = []
    threads = []
    lines = 0
    for at, parts in enumerate(rows):
        if parts != []:
            item = _read_line(parts, threads)
            word = _fault_in(parts, item, shared, threads, lines)
            if word is not None:
                raise ProgramFault(at, word)
            if item == THREAD:
                threads.append([])
                lines = _lines_of_thread(rows, at)
            elif threads == []:
                shared.append(item)
            else:
                threads[-1].append(item)
    word = _fault_behind(threads)
    if word is not None:
        raise ProgramFault(len(rows), word)
    return tuple(shared), tuple([tuple(thread) for thread in threads])


def _read_line(parts, threads):
    """Return the tuple of a line: a thing's, an instruction's or that of `thread`; None if it has no form."""
    if parts == THREAD_LINE:
        return THREAD
    if threads == []:
        return read_one_of(THING_FORMS, parts)
    return read_instruction(parts)


def _lines_of_thread(rows, start):
    """Count the lines that are not blank between a line `thread` and the next one."""
    count = 0
    for parts in rows[start + 1:]:
        if parts == THREAD_LINE:
            return count
        if parts != []:
            count += 1
    return count


def _fault_in(parts, item, shared, threads, lines):
    """Return the word of the first fault of a line behind these things and threads; None if it has none."""
    if any([kind == "bad" for kind, text in parts]):
        return "tokens"
    if item is None:
        return "form"
    if not _has_right_names(item, shared, threads):
        return "name"
    if not _has_right_number(item, lines):
        return "number"
    if _is_too_many(item, shared, threads):
        return "many"
    if threads != [] and not _alternates(item, threads[-1]):
        return "block"
    return None


def _has_right_names(item, shared, threads):
    if item == THREAD:
        return True
    if threads == []:
        return _declares_rightly(item, shared)
    name = thing_of(item)
    return name is None or name in [thing[1] for thing in shared if thing[0] == kind_needed(item)]


def _declares_rightly(thing, shared):
    if not is_name(thing[1]) or thing[1] in [other[1] for other in shared]:
        return False
    return thing[0] != "cond" or ("lock", thing[2]) in shared


def _has_right_number(item, lines):
    if item[0] == "queue":
        return LEAST_SIZE <= item[2] <= GREATEST_SIZE
    if item[0] == "go":
        return item[1] <= lines
    return True


def _is_too_many(item, shared, threads):
    if item == THREAD:
        return len(threads) == MOST_THREADS
    if threads == []:
        return len(shared) == MOST_THINGS
    return len(threads[-1]) == MOST_INSTRUCTIONS


def _alternates(item, instructions):
    if item[0] == "begin":
        return not _is_open(instructions)
    if item[0] == "end":
        return _is_open(instructions)
    return True


def _is_open(instructions):
    """Tell whether the last block of some instructions has no end."""
    words = [instruction[0] for instruction in instructions]
    return words.count("begin") > words.count("end")


def _fault_behind(threads):
    if any([_is_open(instructions) for instructions in threads]):
        return "block"
    if threads == []:
        return "threads"
    if [] in threads:
        return "empty"
    return None


def kind_of(program, name):
    """Return the kind of a shared thing."""
    for thing in program[0]:
        if thing[1] == name:
            return thing[0]
    raise NoSuchPlace("name")


def names_of(program, kind):
    """Return the tuple of the names of the shared things of a kind, in order."""
    return tuple([thing[1] for thing in program[0] if thing[0] == kind])


def lock_of(program, cond):
    """Return the name of the lock of a condition."""
    return [thing[2] for thing in program[0] if thing[0] == "cond" and thing[1] == cond][0]
