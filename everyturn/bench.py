"""The bench: a program that is changed line by line, while what was found of its turns is kept."""

from everyturn.errors import NoSuchPlace, NothingToUndo
from everyturn.exploring import begun_by, complete_among, first_entry, longer_by
from everyturn.faults import finds_among
from everyturn.machine import THREADS, enabled
from everyturn.programs import read_program
from everyturn.writing import write_program


class Bench:
    """A program on the bench, with the limits of its search and all its least schedules."""

    def __init__(self, program, limit, most):
        self._limit = limit
        self._most = most
        self._program = program
        self._entries = begun_by(program, limit, most, [first_entry(program)])
        self._work = len(self._entries)
        self._past = []

    def program(self):
        """Return the present program."""
        return self._program

    def tried(self):
        """Return the list of the least schedules of the present program."""
        return list(self._entries)

    def executions(self):
        """Return the list of those of the least schedules that are executions."""
        return complete_among(self._program, self._limit, self._entries)

    def finds(self):
        """Return the finds of the present program."""
        return finds_among(self._program, self.executions())

    def change(self, thread, pc, line):
        """Replace an instruction by the one of another line."""
        changed = _with_line(self._program, thread, pc, line)
        kept = [entry for entry in self._entries if not _makes_step_at(entry, thread, pc)]
        starts = _steps_at(changed, self._limit, kept, thread, pc)
        anew = begun_by(changed, self._limit, self._most, starts, len(kept))
        self._past.append((self._program, self._entries))
        self._program = changed
        self._entries = sorted(kept + anew, key=_schedule_of)
        self._work = len(anew)

    def undo(self):
        """Undo the last change that is not undone."""
        if self._past == []:
            raise NothingToUndo()
        self._program, self._entries = self._past.pop()
        self._work = 0

    def work(self):
        """Return how many schedules the last making, change or undoing tried anew."""
        return self._work


def _with_line(program, thread, pc, line):
    """Return the program that is read from the normal text with another line for an instruction."""
    shared, threads = program
    if not 0 <= thread < len(threads):
        raise NoSuchPlace("thread")
    if not 0 <= pc < len(threads[thread]):
        raise NoSuchPlace("pc")
    lines = write_program(program).split("\n")
    # Each thread has one line more than instructions.
    ahead = sum([len(instructions) + 1 for instructions in threads[:thread]])
    lines[len(shared) + ahead + 1 + pc] = line
    return read_program("\n".join(lines))


def _makes_step_at(entry, thread, pc):
    return (thread, pc) in [step[:2] for step in entry[1]]


def _steps_at(program, limit, kept, thread, pc):
    """Return the least schedules that are a kept one and a step of a thread at a pc behind it, in their order."""
    found = []
    for entry in kept:
        state = entry[2]
        if len(entry[0]) < limit and state[THREADS][thread][0] == pc and thread in enabled(program, state):
            found.extend(longer_by(program, entry, thread))
    return found


def _schedule_of(entry):
    return entry[0]
