"""[f5], [f6]: the faults of a schedule, and the finds of a program."""

import unittest

from everyturn.errors import NotEnabled, TooMany, TurnError
from everyturn.exploring import executions, tried
from everyturn.faults import faults_of, finds
from helper import (BLOCK_PROGRAMS, KINDS, LIMIT, PROGRAMS, build, class_of, complete, faults_by_trying,
                    finds_by_trying, possible, rank_of_fault, schedule_of)

MOST = 3000
ADDS = build("get a x; put x a + 1", "get a x; put x a + 1", things="var x = 0\n")


class FaultsOfTest(unittest.TestCase):
    def test_no_fault(self):
        self.assertEqual(faults_of(build("let a = 1"), ()), [])
        self.assertEqual(faults_of(build("put x 1", "get a y"), (0, 1)), [])

    def test_each_kind(self):
        self.assertEqual(faults_of(build("let a = 99 + 1"), (0,)), [("failure", 0, 0, "range")])
        self.assertEqual(faults_of(build("take a q"), ()), [("deadlock", ((0, "q"),))])
        self.assertEqual(faults_of(build("get a x", "put x 1"), (1, 0)), [("race", 0, 0, 1, 0, "x")])
        self.assertEqual(faults_of(build("lock m; wait w", "notify w"), (1, 0, 0)),
                         [("deadlock", ((0, "w"),)), ("lost", 1, 0, "w")])
        self.assertEqual(faults_of(build("begin; add x 1; add x 1; end", "add x 1"), (0, 0, 1, 0, 0)),
                         [("broken", 0, 0, 1, 0)])

    def test_the_kinds_are_ordered(self):
        program = build("lock m; wait w", "begin; notify w; get a x; get b x; end; check a < 0", "put x 1",
                        things="var x = 0\nlock m\ncond w of m\n")
        self.assertEqual(faults_of(program, (1, 1, 1, 2, 0, 0, 1, 1, 1)),
                         [("failure", 1, 5, "check"), ("deadlock", ((0, "w"),)), ("race", 1, 2, 2, 0, "x"),
                          ("race", 1, 3, 2, 0, "x"), ("lost", 1, 1, "w"), ("broken", 1, 0, 2, 0)])

    def test_faults_of_one_kind_by_their_tuples(self):
        program = build("check 0", "let a = 99 + 1", "unlock m")
        for schedule in ((0, 1, 2), (2, 1, 0), (1, 2, 0)):
            self.assertEqual(faults_of(program, schedule), [("failure", 0, 0, "check"), ("failure", 1, 0, "range"),
                                                            ("failure", 2, 0, "owner")])
        program = build("put y 1; put x 1", "get a x; get a y")
        self.assertEqual(faults_of(program, (0, 0, 1, 1)), [("race", 0, 1, 1, 0, "x")])
        self.assertEqual(faults_of(program, (1, 0, 0, 1)), [("race", 0, 0, 1, 1, "y"), ("race", 0, 1, 1, 0, "x")])

    def test_a_fault_that_an_execution_has_twice(self):
        program = build("put x 1; go 0", "get a x; go 0")
        self.assertEqual(faults_of(program, (0, 1, 0, 1, 0, 1)), [("race", 0, 0, 1, 0, "x")])
        program = build("let a = a + 1; notify w; go 0 if a < 2", "lock m; wait w")
        self.assertEqual(faults_of(program, (0,) * 6 + (1, 1)), [("deadlock", ((1, "w"),)), ("lost", 0, 1, "w")])
        program = build("begin; add x 1; add x 2; end", "add x 1; go 0")
        self.assertEqual(faults_of(program, (0, 0, 1, 1, 1, 0, 0)),
                         [("broken", 0, 0, 1, 0), ("broken", 0, 0, 1, 1)])

    def test_a_last_state_that_is_not_final(self):
        program = build("lock m; lock m", "stop")
        self.assertEqual(faults_of(program, (0,)), [])
        self.assertEqual(faults_of(program, (0, 1)), [("deadlock", ((0, "m"),))])
        program = build("lock m; wait w", "notify w; stop")
        self.assertEqual(faults_of(program, (1, 0, 0)), [])
        self.assertEqual(faults_of(build("get a x; stop", "put x 1"), (0, 1)), [("race", 0, 0, 1, 0, "x")])

    def test_the_list_is_new(self):
        faults_of(ADDS, (0, 0, 1, 1)).clear()
        self.assertEqual(faults_of(ADDS, (0, 0, 1, 1)), [("race", 0, 1, 1, 0, "x")])

    def test_a_schedule_that_is_not_possible(self):
        for schedule, at in (((0, 0, 0), 2), ((0, 1, 2), 2), ((2,), 0), ((0, 0, 1, 1, 1), 4)):
            with self.assertRaises(NotEnabled) as caught:
                faults_of(ADDS, schedule)
            self.assertEqual(caught.exception.at, at)
            self.assertIsInstance(caught.exception, TurnError)

    def test_each_schedule(self):
        for program in PROGRAMS[::3] + BLOCK_PROGRAMS[::3]:
            for schedule, steps, state in possible(program, LIMIT)[::7]:
                self.assertEqual(faults_of(program, schedule), faults_by_trying(program, schedule, steps, state))


class FindsTest(unittest.TestCase):
    def test_no_find(self):
        self.assertEqual(finds(build("let a = 1", "add x 1"), 40, MOST), [])
        self.assertEqual(finds(build("take a q; check 0", "send q 1"), 0, MOST), [])

    def test_a_fault_of_the_empty_schedule(self):
        self.assertEqual(finds(build("take a q"), 0, MOST), [(("deadlock", ((0, "q"),)), ())])

    def test_the_first_least_schedule(self):
        self.assertEqual(finds(ADDS, 40, 100), [(("race", 0, 0, 1, 1, "x"), (0, 1, 1, 0)),
                                                (("race", 0, 1, 1, 0, "x"), (0, 0, 1, 1)),
                                                (("race", 0, 1, 1, 1, "x"), (0, 1, 0, 1))])

    def test_the_schedules_are_whole_executions(self):
        program = build("check 0; stop", "let a = 1; let a = 2")
        self.assertEqual(finds(program, 40, MOST), [(("failure", 0, 0, "check"), (0, 1, 1))])
        self.assertEqual(finds(program, 2, MOST), [(("failure", 0, 0, "check"), (0, 1))])
        self.assertEqual(finds(program, 1, MOST), [(("failure", 0, 0, "check"), (0,))])

    def test_the_limit_of_steps(self):
        program = build("let a = a + 1; check a < 2; go 0")
        self.assertEqual(finds(program, 4, MOST), [])
        self.assertEqual(finds(program, 5, MOST), [(("failure", 0, 1, "check"), (0,) * 5)])

    def test_faults_that_few_executions_have(self):
        program = build("put x 1; get a y", "put y 1; get a x; check a", things="var x = 0\nvar y = 0\n")
        self.assertEqual(finds(program, 40, MOST)[0], (("failure", 1, 2, "check"), (1, 1, 0, 0, 1)))
        program = build("lock m; lock n; unlock n; unlock m", "lock n; lock m; unlock m; unlock n")
        self.assertEqual(finds(program, 40, MOST), [(("deadlock", ((0, "n"), (1, "m"))), (0, 1))])

    def test_the_kinds_are_ordered(self):
        program = build("lock m; wait w; unlock m", "begin; notify w; put x 1; put x 2; end", "get a x; check a < 1",
                        things="var x = 0\nlock m\ncond w of m\n")
        told = [fault for fault, _ in finds(program, 40, MOST)]
        self.assertEqual(told, [("failure", 2, 1, "check"), ("deadlock", ((0, "w"),)), ("race", 1, 2, 2, 0, "x"),
                                ("race", 1, 3, 2, 0, "x"), ("lost", 1, 1, "w"), ("broken", 1, 0, 2, 0)])

    def test_the_list_is_new(self):
        finds(ADDS, 40, MOST).clear()
        self.assertEqual(len(finds(ADDS, 40, MOST)), 3)

    def test_each_program(self):
        kinds = []
        for program in PROGRAMS + BLOCK_PROGRAMS:
            for limit in (2, LIMIT):
                told = finds(program, limit, MOST)
                self.assertEqual(told, finds_from(program, limit))
                kinds.extend(fault[0] for fault, _ in told)
        for kind in KINDS:
            self.assertGreater(kinds.count(kind), 5, kind)

    def test_each_find_is_a_fault_of_its_schedule(self):
        for program in PROGRAMS:
            least = [entry[0] for entry in executions(program, LIMIT, MOST)]
            for fault, schedule in finds(program, LIMIT, MOST):
                self.assertIn(fault, faults_of(program, schedule))
                self.assertIn(schedule, least)

    def test_against_all_executions(self):
        for program in PROGRAMS[::6] + BLOCK_PROGRAMS[::6]:
            self.assertEqual(finds(program, LIMIT - 1, MOST), finds_by_trying(program, LIMIT - 1))


def finds_from(program, limit):
    """The finds of a program, from the faults of all its executions."""
    found = {}
    for schedule, steps, _ in complete(program, limit):
        for fault in faults_of(program, schedule):
            found.setdefault(fault, []).append(steps)
    ranked = sorted(found, key=rank_of_fault)
    return [(fault, min(schedule_of(class_of(steps)[0]) for steps in found[fault])) for fault in ranked]


class TooManyTest(unittest.TestCase):
    def assert_too_many(self, program, limit, most):
        with self.assertRaises(TooMany) as caught:
            finds(program, limit, most)
        self.assertEqual(caught.exception.limit, most)
        self.assertIsInstance(caught.exception, TurnError)

    def test_just_enough_and_one_too_low(self):
        many = len(tried(ADDS, 40, MOST))
        self.assertEqual(len(finds(ADDS, 40, many)), 3)
        self.assert_too_many(ADDS, 40, many - 1)
        self.assert_too_many(ADDS, 40, 1)

    def test_a_fault_that_is_found_before(self):
        program = build("check 0", "add x 1; go 0", "add x 1; go 0")
        self.assert_too_many(program, 40, MOST)


if __name__ == "__main__":
    unittest.main()
