"""[e1], [e2]: the bench, its changes and their undoing."""

import random
import unittest

from everyturn.bench import Bench
from everyturn.errors import NoSuchPlace, NothingToUndo, ProgramFault, TooMany, TurnError
from everyturn.exploring import executions, tried
from everyturn.faults import finds
from everyturn.programs import read_program
from everyturn.writing import write_instruction, write_program
from helper import BLOCK_PROGRAMS, LIMIT, PROGRAMS, build

MOST = 3000
SMALL = build("put x 1; put x 2", "get a x; check a < 2", things="var x = 0\n")
LINES = ("get a x", "put x a + 1", "add y 1", "add x 98", "let b = 3", "lock m", "unlock m", "wait w", "notify w",
         "go 0", "go 1 if a", "check a", "send q a", "take b q", "stop", "begin", "end", "go 9", "put z 1", "put x",
         "let a = ?")


def told(bench):
    """All that a bench tells."""
    return bench.program(), bench.tried(), bench.executions(), bench.finds(), bench.work()


def makes_step(entry, thread, pc):
    return (thread, pc) in [(step[0], step[1]) for step in entry[1]]


def changed_text(program, thread, pc, line):
    """The normal text with another line for an instruction, found by counting the lines `thread`."""
    lines = write_program(program).splitlines()
    starts = [at for at, text in enumerate(lines) if text == "thread"]
    lines[starts[thread] + 1 + pc] = line
    return "\n".join(lines) + "\n"


class BenchCase(unittest.TestCase):
    def assert_new_search(self, bench, program, limit):
        """What a bench tells is what a new search finds."""
        self.assertEqual(bench.program(), program)
        self.assertEqual(bench.tried(), tried(program, limit, MOST))
        self.assertEqual(bench.executions(), executions(program, limit, MOST))
        self.assertEqual(bench.finds(), finds(program, limit, MOST))


class NewBenchTest(BenchCase):
    def test_what_it_tells(self):
        bench = Bench(SMALL, 40, 100)
        self.assert_new_search(bench, SMALL, 40)
        self.assertEqual(bench.work(), 15)
        self.assertEqual(len(bench.tried()), 15)

    def test_the_limit_of_steps(self):
        bench = Bench(SMALL, 2, 100)
        self.assert_new_search(bench, SMALL, 2)
        self.assertEqual(Bench(SMALL, 0, 1).tried(), tried(SMALL, 0, 1))

    def test_too_many(self):
        self.assertEqual(Bench(SMALL, 40, 15).work(), 15)
        with self.assertRaises(TooMany) as caught:
            Bench(SMALL, 40, 14)
        self.assertEqual(caught.exception.limit, 14)
        self.assertIsInstance(caught.exception, TurnError)

    def test_lists_are_new(self):
        bench = Bench(SMALL, 40, 100)
        for look in (bench.tried, bench.executions, bench.finds):
            expected = look()
            look().clear()
            self.assertEqual(look(), expected)

    def test_each_program(self):
        for program in PROGRAMS + BLOCK_PROGRAMS:
            bench = Bench(program, LIMIT, MOST)
            self.assert_new_search(bench, program, LIMIT)
            self.assertEqual(bench.work(), len(bench.tried()))


class ChangeTest(BenchCase):
    def test_one_change(self):
        bench = Bench(SMALL, 40, 100)
        self.assertIsNone(bench.change(0, 1, "put x 1"))
        program = build("put x 1; put x 1", "get a x; check a < 2", things="var x = 0\n")
        self.assert_new_search(bench, program, 40)
        self.assertEqual(bench.finds()[0][0], ("race", 0, 0, 1, 0, "x"))
        self.assertEqual(bench.work(), len([entry for entry in bench.tried() if makes_step(entry, 0, 1)]))
        self.assertEqual(bench.work(), 7)

    def test_a_change_in_each_place(self):
        for thread in (0, 1):
            for pc in (0, 1):
                for line in ("let b = 1", "stop", "add x 3", "go 2", "check 0"):
                    bench = Bench(SMALL, 40, 100)
                    bench.change(thread, pc, line)
                    self.assert_new_search(bench, read_program(changed_text(SMALL, thread, pc, line)), 40)
                    again = [entry for entry in bench.tried() if makes_step(entry, thread, pc)]
                    self.assertEqual(bench.work(), len(again))

    def test_a_line_of_any_spaces_and_brackets(self):
        bench = Bench(SMALL, 40, 100)
        bench.change(1, 1, "  check((a)<  2 )")
        self.assertEqual(bench.program(), SMALL)
        bench.change(1, 1, "let  c=(a+1)")
        self.assertEqual(bench.program()[1][1][1], ("let", "c", ("op", "+", ("reg", "a"), ("num", 1))))

    def test_a_change_that_changes_nothing(self):
        bench = Bench(SMALL, 40, 100)
        before = told(bench)
        bench.change(0, 1, "put x 2")
        self.assertEqual(told(bench)[:4], before[:4])
        self.assertEqual(bench.work(), len([entry for entry in bench.tried() if makes_step(entry, 0, 1)]))
        bench.undo()
        self.assertEqual(told(bench), before[:4] + (0,))
        with self.assertRaises(NothingToUndo):
            bench.undo()

    def test_an_instruction_that_no_schedule_makes(self):
        program = build("stop; put x 1", "add x 1")
        bench = Bench(program, 40, 100)
        bench.change(0, 1, "check 0")
        self.assertEqual(bench.work(), 0)
        self.assert_new_search(bench, build("stop; check 0", "add x 1"), 40)

    def test_the_first_instruction_of_the_only_thread(self):
        bench = Bench(build("add x 1; add x 2"), 40, 100)
        self.assertEqual(bench.work(), 3)
        bench.change(0, 0, "add x 3")
        # The empty schedule is kept.
        self.assertEqual(bench.work(), 2)
        self.assert_new_search(bench, build("add x 3; add x 2"), 40)

    def test_an_instruction_that_becomes_blocked_or_enabled(self):
        bench = Bench(build("add x 1; stop", "take a q; add y 1"), 40, 100)
        bench.change(0, 0, "take b q")
        self.assert_new_search(bench, build("take b q; stop", "take a q; add y 1"), 40)
        self.assertEqual((bench.work(), len(bench.tried())), (0, 1))
        bench.change(1, 0, "send q 1")
        self.assert_new_search(bench, build("take b q; stop", "send q 1; add y 1"), 40)
        self.assertEqual(bench.work(), len(bench.tried()) - 1)

    def test_a_wait_that_is_changed(self):
        program = build("lock m; wait w; unlock m", "lock m; notify w; unlock m")
        bench = Bench(program, 40, 300)
        bench.change(0, 1, "add x 1")
        self.assert_new_search(bench, build("lock m; add x 1; unlock m", "lock m; notify w; unlock m"), 40)
        bench.change(0, 1, "wait w")
        self.assert_new_search(bench, program, 40)
        bench.change(1, 1, "notify all w")
        self.assert_new_search(bench, build("lock m; wait w; unlock m", "lock m; notify all w; unlock m"), 40)

    def test_a_limit_that_ends_the_schedules(self):
        program = build("add x 1; go 0", "get a x; let b = 1")
        for limit in (0, 1, 2, 3, 7):
            bench = Bench(program, limit, MOST)
            bench.change(0, 1, "add x 2")
            self.assert_new_search(bench, build("add x 1; add x 2", "get a x; let b = 1"), limit)
            bench.change(0, 0, "let a = 1")
            self.assert_new_search(bench, build("let a = 1; add x 2", "get a x; let b = 1"), limit)

    def test_several_changes_and_undoings(self):
        bench = Bench(SMALL, 40, 200)
        programs = [SMALL]
        for thread, pc, line in ((0, 0, "get b x"), (1, 0, "put x 7"), (0, 0, "add x a"), (1, 1, "stop")):
            bench.change(thread, pc, line)
            programs.append(read_program(changed_text(programs[-1], thread, pc, line)))
            self.assert_new_search(bench, programs[-1], 40)
        while len(programs) > 1:
            programs.pop()
            bench.undo()
            self.assert_new_search(bench, programs[-1], 40)
            self.assertEqual(bench.work(), 0)
        self.assertRaises(NothingToUndo, bench.undo)

    def test_a_change_behind_an_undoing(self):
        bench = Bench(SMALL, 40, 100)
        bench.change(0, 0, "put x 3")
        bench.undo()
        bench.change(1, 0, "let a = 3")
        program = build("put x 1; put x 2", "let a = 3; check a < 2", things="var x = 0\n")
        self.assert_new_search(bench, program, 40)
        bench.undo()
        self.assert_new_search(bench, SMALL, 40)
        self.assertRaises(NothingToUndo, bench.undo)

    def test_the_program_that_was_passed_stays(self):
        program = build("put x 1", "get a x")
        bench = Bench(program, 40, 100)
        bench.change(0, 0, "stop")
        self.assertEqual(program, build("put x 1", "get a x"))
        self.assertEqual(bench.program(), build("stop", "get a x"))

    def test_two_benches_know_nothing_of_one_another(self):
        one, other = Bench(SMALL, 40, 100), Bench(SMALL, 40, 100)
        one.change(0, 0, "stop")
        self.assert_new_search(other, SMALL, 40)
        self.assertRaises(NothingToUndo, other.undo)

    def test_random_changes(self):
        kept = 0
        for number, program in enumerate(PROGRAMS[::2] + BLOCK_PROGRAMS[::3]):
            kept += self.change_at_random(random.Random(number), Bench(program, LIMIT, MOST))
        self.assertGreater(kept, 1000)

    def change_at_random(self, chance, bench):
        """Change and undo some lines, and count the schedules that were kept."""
        past = [bench.program()]
        kept = 0
        for _ in range(8):
            thread = chance.randrange(len(past[-1][1]))
            pc = chance.randrange(len(past[-1][1][thread]))
            line = chance.choice(LINES)
            if len(past) > 1 and chance.random() < 0.3:
                past.pop()
                bench.undo()
                self.assertEqual(bench.work(), 0)
            else:
                try:
                    program = read_program(changed_text(past[-1], thread, pc, line))
                except ProgramFault as fault:
                    self.assert_fault(bench, (thread, pc, line), (fault.line, fault.word))
                else:
                    bench.change(thread, pc, line)
                    past.append(program)
                    anew = [entry for entry in tried(program, LIMIT, MOST) if makes_step(entry, thread, pc)]
                    self.assertEqual(bench.work(), len(anew))
                    kept += len(bench.tried()) - bench.work()
            self.assert_new_search(bench, past[-1], LIMIT)
        return kept

    def assert_fault(self, bench, change, expected):
        before = told(bench)
        with self.assertRaises(ProgramFault) as caught:
            bench.change(*change)
        self.assertEqual((caught.exception.line, caught.exception.word), expected)
        self.assertEqual(told(bench), before)


class RefusedTest(BenchCase):
    def refused(self, error, bench, *change):
        """The error that a change raises, behind which the bench is as it was."""
        before = told(bench)
        with self.assertRaises(error) as caught:
            bench.change(*change)
        self.assertEqual(told(bench), before)
        self.assertIsInstance(caught.exception, TurnError)
        return caught.exception

    def test_a_thread_that_there_is_not(self):
        bench = Bench(SMALL, 40, 100)
        for thread in (-1, -2, 2, 9):
            for pc in (0, 7):
                self.assertEqual(self.refused(NoSuchPlace, bench, thread, pc, "stop").word, "thread")
        self.assertEqual(self.refused(NoSuchPlace, bench, 2, 0, "not a line").word, "thread")

    def test_a_pc_that_there_is_not(self):
        bench = Bench(SMALL, 40, 100)
        for thread in (0, 1):
            for pc in (-1, -2, 2, 9):
                self.assertEqual(self.refused(NoSuchPlace, bench, thread, pc, "stop").word, "pc")
        self.assertEqual(self.refused(NoSuchPlace, bench, 0, 2, "not a line").word, "pc")

    def test_threads_of_other_lengths(self):
        bench = Bench(build("stop; stop; stop", "stop"), 40, 100)
        self.assertEqual(self.refused(NoSuchPlace, bench, 1, 1, "stop").word, "pc")
        bench.change(0, 2, "add x 1")
        self.assertEqual(bench.program(), build("stop; stop; add x 1", "stop"))

    def test_a_line_that_is_no_instruction(self):
        bench = Bench(SMALL, 40, 100)
        # The text has the line of the variable, then those of thread 0, then those of thread 1.
        for line, word in (("put x ?", "tokens"), ("put x 007", "tokens"), ("hello", "form"), ("put x", "form"),
                           ("var y = 1", "form"), ("thread thread", "form"), ("put y 1", "name"), ("lock x", "name"),
                           ("go 3", "number"), ("end", "block")):
            fault = self.refused(ProgramFault, bench, 0, 1, line)
            self.assertEqual((fault.line, fault.word), (3, word))
            fault = self.refused(ProgramFault, bench, 1, 0, line)
            self.assertEqual((fault.line, fault.word), (5, word))
        # Behind all lines, the last newline of the normal text begins one more.
        fault = self.refused(ProgramFault, bench, 0, 1, "begin")
        self.assertEqual((fault.line, fault.word), (8, "block"))

    def test_a_line_that_does_not_fit_there(self):
        program = build("begin; add x 1; end", "stop")
        bench = Bench(program, 40, 100)
        fault = self.refused(ProgramFault, bench, 0, 0, "add x 1")
        self.assertEqual((fault.line, fault.word), (9, "block"))
        fault = self.refused(ProgramFault, bench, 0, 1, "begin")
        self.assertEqual((fault.line, fault.word), (8, "block"))
        fault = self.refused(ProgramFault, bench, 0, 1, "end")
        self.assertEqual((fault.line, fault.word), (9, "block"))
        fault = self.refused(ProgramFault, bench, 0, 2, "add x 1")
        self.assertEqual((fault.line, fault.word), (13, "block"))
        bench.change(1, 0, "go 1")
        self.assertEqual(self.refused(ProgramFault, bench, 1, 0, "go 2").word, "number")

    def test_another_line_that_cannot_be_read(self):
        # A tree that is passed may need more tokens than an expression has; the text with it is no program.
        tree = ("num", 1)
        for _ in range(12):
            tree = ("op", "+", tree, ("num", 1))
        program = ((("var", "x", 0),), ((("put", "x", tree), ("stop",)), (("stop",),)))
        bench = Bench(program, 40, 100)
        self.assert_new_search(bench, program, 40)
        fault = self.refused(ProgramFault, bench, 0, 1, "add x 1")
        self.assertEqual((fault.line, fault.word), (2, "form"))
        bench.change(0, 0, "add x 1")
        self.assertEqual(bench.program(), build("add x 1; stop", "stop", things="var x = 0\n"))

    def test_too_many(self):
        bench = Bench(SMALL, 40, 15)
        many = len(tried(build("put x 1; put x 2", "get a x; add x 1", things="var x = 0\n"), 40, MOST))
        self.assertGreater(many, 15)
        self.assertEqual(self.refused(TooMany, bench, 1, 1, "add x 1").limit, 15)
        bench = Bench(SMALL, 40, many - 1)
        self.assertEqual(self.refused(TooMany, bench, 1, 1, "add x 1").limit, many - 1)
        bench = Bench(SMALL, 40, many)
        bench.change(1, 1, "add x 1")
        self.assertEqual(len(bench.tried()), many)

    def test_a_change_that_has_no_end(self):
        program = build("add x 1; go 2", "add x 1; go 2")
        bench = Bench(program, 20, MOST)
        bench.change(0, 1, "go 0")
        self.assertEqual(self.refused(TooMany, bench, 1, 1, "go 0").limit, MOST)
        bench.undo()
        self.assert_new_search(bench, program, 20)

    def test_the_limits_of_changed_programs(self):
        for program in PROGRAMS[:40]:
            other = read_program(changed_text(program, 0, 0, "add x 1")) if program[0] else program
            many = max(len(tried(program, LIMIT, MOST)), len(tried(other, LIMIT, MOST)))
            bench = Bench(program, LIMIT, many)
            bench.change(0, 0, write_instruction(other[1][0][0]))
            self.assert_new_search(bench, other, LIMIT)
            if len(tried(program, LIMIT, MOST)) < many:
                bench = Bench(program, LIMIT, many - 1)
                self.assertEqual(self.refused(TooMany, bench, 0, 0, "add x 1").limit, many - 1)

    def test_an_undo_too_many(self):
        bench = Bench(SMALL, 40, 100)
        bench.change(0, 0, "stop")
        bench.undo()
        for _ in range(2):
            before = told(bench)
            with self.assertRaises(NothingToUndo) as caught:
                bench.undo()
            self.assertIsInstance(caught.exception, TurnError)
            self.assertEqual(told(bench), before)
        self.assertRaises(NothingToUndo, Bench(SMALL, 40, 100).undo)

    def test_a_refused_change_is_not_undone(self):
        bench = Bench(SMALL, 40, 15)
        bench.change(0, 0, "let a = 1")
        for change in ((0, 0, "begin"), (5, 0, "stop"), (0, 5, "stop")):
            self.assertRaises(TurnError, bench.change, *change)
        bench.undo()
        self.assert_new_search(bench, SMALL, 40)
        self.assertRaises(TooMany, bench.change, 1, 1, "add x 1")
        self.assertRaises(NothingToUndo, bench.undo)


class WorkTest(unittest.TestCase):
    def test_behind_each_call(self):
        bench = Bench(SMALL, 40, 100)
        self.assertEqual(bench.work(), 15)
        bench.tried()
        bench.finds()
        self.assertEqual(bench.work(), 15)
        bench.change(0, 1, "put x 1")
        self.assertEqual(bench.work(), 7)
        self.assertRaises(ProgramFault, bench.change, 0, 0, "begin")
        self.assertEqual(bench.work(), 7)
        bench.undo()
        self.assertEqual(bench.work(), 0)
        self.assertRaises(NothingToUndo, bench.undo)
        self.assertEqual(bench.work(), 0)
        bench.change(0, 0, "put x 5")
        # All but the schedules of thread 1 alone.
        self.assertEqual(bench.work(), len(bench.tried()) - 3)


if __name__ == "__main__":
    unittest.main()
