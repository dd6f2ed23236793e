"""[0], and what the program promises: on small programs, against a search that tries all schedules."""

import random
import unittest
from itertools import product

from everyturn.bench import Bench
from everyturn.classes import class_size, rows_of_class
from everyturn.counting import count_executions
from everyturn.errors import ProgramFault
from everyturn.exploring import executions, tried
from everyturn.faults import finds
from everyturn.guarding import cost, guarded, inside
from everyturn.judge import judge
from everyturn.machine import blocked, enabled
from everyturn.nearest import leads_to, nearest
from everyturn.papers import paper_of
from everyturn.programs import read_program
from everyturn.repairs import least_repairs
from everyturn.schedules import run
from everyturn.writing import write_program
from helper import (BLOCK_PROGRAMS, GUARDED_PROGRAMS, LIMIT, PROGRAMS, build, class_of, complete, faults_by_trying,
                    finds_by_trying, possible, schedule_of, spans_by_trying)

MOST = 3000
SMALL = PROGRAMS[::4] + BLOCK_PROGRAMS[::4] + GUARDED_PROGRAMS[::4]
LINES = ("get a x", "put x a + 1", "add x 1", "let b = 3", "lock m", "unlock m", "check a", "stop", "go 1", "take a q",
         "send q 2", "put y 1")
HARM = ("failure", "deadlock", "race")


def harmful(program, limit):
    """The failures, deadlocks and races of all executions, tried one by one."""
    return {fault for schedule, steps, state in complete(program, limit)
            for fault in faults_by_trying(program, schedule, steps, state) if fault[0] in HARM}


class ClassesTest(unittest.TestCase):
    """Each class of executions is tried exactly once, by its least schedule."""

    def test_each_execution_belongs_to_one_that_is_tried(self):
        for program in SMALL:
            told = executions(program, LIMIT, MOST)
            rows = [schedule for _, steps, _ in told for schedule in rows_of_class(steps, MOST)]
            self.assertEqual(sorted(rows), sorted(entry[0] for entry in complete(program, LIMIT)))
            for schedule, steps, _ in told:
                self.assertEqual(schedule, schedule_of(class_of(steps)[0]))

    def test_the_sizes_of_the_classes_make_up_the_count(self):
        for program in PROGRAMS + GUARDED_PROGRAMS:
            for limit in (3, LIMIT, 8):
                sizes = [class_size(steps) for _, steps, _ in executions(program, limit, MOST)]
                self.assertEqual(sum(sizes), count_executions(program, limit))

    def test_equivalent_rows_lead_to_the_same_state(self):
        for program in SMALL:
            for _, steps, state in executions(program, LIMIT, MOST):
                for row in class_of(steps):
                    self.assertEqual(run(program, schedule_of(row)), (state, row))


class FaultsTest(unittest.TestCase):
    """A fault is found exactly if some execution has it."""

    def test_finds(self):
        kinds = []
        for program in SMALL + PROGRAMS[-11:]:
            told = finds(program, LIMIT, MOST)
            self.assertEqual(told, finds_by_trying(program, LIMIT))
            kinds.extend(fault[0] for fault, _ in told)
        for kind in HARM + ("lost", "broken"):
            self.assertIn(kind, kinds)

    def test_a_schedule_leads_to_each_failure_and_deadlock_that_is_found(self):
        for program in SMALL:
            for fault, schedule in finds(program, LIMIT, MOST):
                if fault[0] in ("failure", "deadlock"):
                    near = nearest(program, fault, LIMIT)
                    self.assertTrue(leads_to(program, near, fault))
                    self.assertLessEqual(len(near), len(schedule))


class ChangesTest(unittest.TestCase):
    """After any changes of the program, what is found is what a new search finds."""

    def test_finds_of_a_bench_behind_changes(self):
        changes = 0
        for number, program in enumerate(SMALL):
            chance = random.Random(number)
            bench = Bench(program, LIMIT - 1, MOST)
            past = [program]
            for _ in range(4):
                thread = chance.randrange(len(past[-1][1]))
                pc = chance.randrange(len(past[-1][1][thread]))
                try:
                    bench.change(thread, pc, chance.choice(LINES))
                    past.append(read_program(write_program(bench.program())))
                    changes += 1
                except ProgramFault:
                    self.assertEqual(bench.program(), past[-1])
                if len(past) > 1 and chance.random() < 0.3:
                    bench.undo()
                    past.pop()
                self.assertEqual(bench.program(), past[-1])
                self.assertEqual(bench.finds(), finds_by_trying(past[-1], LIMIT - 1))
        self.assertGreater(changes, 100)


class PapersTest(unittest.TestCase):
    """A program with a paper of safety that the judge accepts has no failure and no deadlock."""

    def test_an_accepted_paper(self):
        found = []
        for program in PROGRAMS + GUARDED_PROGRAMS:
            paper = paper_of(program, MOST)
            found.append(paper is not None)
            if paper is not None:
                self.assertIsNone(judge(program, paper))
            harm = [steps for _, steps, state in possible(program, LIMIT)
                    if [step for step in steps if step[3] is not None]
                    or blocked(program, state) and not enabled(program, state)]
            if harm:
                self.assertIsNone(paper)
        self.assertGreater(found.count(True), 30)
        self.assertGreater(found.count(False), 30)

    def test_no_paper_is_accepted_if_there_is_a_failure_or_a_deadlock(self):
        for number, program in enumerate(PROGRAMS + GUARDED_PROGRAMS):
            states = list(dict.fromkeys(entry[2] for entry in possible(program, LIMIT)))
            if paper_of(program, MOST) is None:
                chance = random.Random(number)
                for _ in range(5):
                    self.assertIsNotNone(judge(program, chance.sample(states, chance.randint(0, len(states)))))
                self.assertIsNotNone(judge(program, states))

    def test_what_an_accepted_paper_says_of_long_schedules(self):
        for program in PROGRAMS + GUARDED_PROGRAMS:
            if paper_of(program, MOST) is not None:
                self.assertEqual([fault for fault, _ in finds(program, 11, MOST) if fault[0] in HARM[:2]], [])


class RepairsTest(unittest.TestCase):
    """A repair takes the faults away, and nothing smaller inside of it does."""

    def test_least_repairs(self):
        found = 0
        for program in GUARDED_PROGRAMS[1::2]:
            told = least_repairs(program, "x", "g", LIMIT, MOST)
            choices = [[None] + spans_by_trying(program, thread, "x") for thread in range(len(program[1]))]
            harm = {guards: harmful(guarded(program, guards, "g"), LIMIT) for guards in product(*choices)}
            for repair in told:
                self.assertEqual(harm[repair], set())
                for guards in harm:
                    if inside(guards, repair) and guards != repair:
                        self.assertNotEqual(harm[guards], set())
                        self.assertLess(cost(guards), cost(repair))
            for guards in harm:
                if not harm[guards]:
                    self.assertTrue(any(inside(repair, guards) for repair in told))
            found += len(told)
        self.assertGreater(found, 10)

    def test_a_repair_for_all_turns(self):
        program = build("get a x; put x a + 1", "get a x; put x a + 1", "add x 1", things="var x = 0\n")
        repair, = least_repairs(program, "x", "g", 40, MOST)
        repaired = guarded(program, repair, "g")
        self.assertEqual(harmful(repaired, 12), set())
        self.assertEqual({state[0] for _, _, state in complete(repaired, 12)}, {(3,)})
        self.assertIsNone(judge(repaired, paper_of(repaired, MOST)))


class WholeProgramTest(unittest.TestCase):
    """No function modifies its arguments, and what a function returns is new each time."""

    def test_the_same_again(self):
        program = build("lock m; get a x; unlock m; put x a + 1", "lock m; add x 1; unlock m",
                        things="var x = 0\nlock m\n")
        calls = [lambda: tried(program, 40, MOST), lambda: executions(program, 40, MOST),
                 lambda: finds(program, 40, MOST), lambda: least_repairs(program, "x", "g", 40, MOST),
                 lambda: paper_of(program, MOST)]
        for call in calls:
            expected = call()
            self.assertIsNot(call(), expected)
            call().reverse()
            self.assertEqual(call(), expected)
        self.assertEqual(program, read_program(write_program(program)))

    def test_four_threads_and_all_kinds_of_things(self):
        things = "var x = 0\nlock m\ncond w of m\nqueue q 1\n"
        program = build("lock m; wait w; unlock m", "begin; get a x; put x a + 1; end; send q 1", "take b q; add x 1",
                        "lock m; notify all w; unlock m", things=things)
        told = finds(program, 40, MOST)
        self.assertEqual({fault[0] for fault, _ in told}, {"deadlock", "lost"})
        self.assertIsNone(paper_of(program, MOST))
        near = nearest(program, told[0][0], 40)
        self.assertTrue(leads_to(program, near, told[0][0]))


if __name__ == "__main__":
    unittest.main()
