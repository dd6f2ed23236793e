"""[f3]: steps that race."""

import unittest

from everyturn.exploring import executions
from everyturn.races import race_pairs, races
from everyturn.schedules import run
from helper import LIMIT, PROGRAMS, act, build, class_of, complete, pairs_by_trying


def pairs_of(program, schedule):
    return race_pairs(program, run(program, schedule)[1])


def races_of(program, schedule):
    return races(program, run(program, schedule)[1])


class RacePairsTest(unittest.TestCase):
    def test_empty_row(self):
        self.assertEqual(race_pairs(build("stop"), ()), [])

    def test_two_steps(self):
        for one, other, expected in (("get a x", "put x 1", True), ("put x 1", "put x 1", True),
                                     ("get a x", "get a x", False), ("add x 1", "get a x", True),
                                     ("put x 1", "add x 1", True), ("add x 1", "add x 1", False),
                                     ("get a x", "put y 1", False), ("put x 1", "put y 1", False),
                                     ("let a = 1", "put x 1", False), ("put x 99 + 1", "put x 1", False),
                                     ("lock m", "put x 1", False), ("get a x", "add x 98", True),
                                     ("get a x", "add x 99 + 1", False), ("send q 1", "send q 1", False)):
            for program in (build(one, other), build(other, one)):
                for schedule in ((0, 1), (1, 0)):
                    self.assertEqual(pairs_of(program, schedule), [(0, 1, "x")] if expected else [], (one, other))

    def test_steps_of_one_thread(self):
        self.assertEqual(pairs_of(build("get a x; put x 1; get a x"), (0, 0, 0)), [])

    def test_a_third_step_of_one_of_the_threads_between(self):
        program = build("put x 1; put x 2", "get a x; get b x")
        self.assertEqual(pairs_of(program, (0, 0, 1, 1)), [(1, 2, "x")])
        self.assertEqual(pairs_of(program, (0, 1, 0, 1)), [(0, 1, "x"), (1, 2, "x"), (2, 3, "x")])

    def test_a_third_step_of_a_third_thread_between(self):
        program = build("put x 1", "put x 2", "get a x")
        self.assertEqual(pairs_of(program, (0, 1, 2)), [(0, 1, "x"), (1, 2, "x")])
        program = build("put x 1", "add x 1", "get a x")
        self.assertEqual(pairs_of(program, (0, 1, 2)), [(0, 1, "x"), (1, 2, "x")])

    def test_a_third_step_that_happens_not_between(self):
        program = build("put x 1", "get a x", "get a x", "put y 1")
        self.assertEqual(pairs_of(program, (0, 3, 1, 2)), [(0, 2, "x"), (0, 3, "x")])

    def test_adds_between(self):
        program = build("get a x", "add x 1", "add x 1", "put x 0")
        self.assertEqual(pairs_of(program, (0, 1, 2, 3)), [(0, 1, "x"), (2, 3, "x")])

    def test_a_lock_keeps_steps_from_racing(self):
        program = build("lock m; put x 1; unlock m", "lock m; get a x; unlock m")
        self.assertEqual(pairs_of(program, (0, 0, 0, 1, 1, 1)), [])
        self.assertEqual(pairs_of(program, (1, 1, 1, 0, 0, 0)), [])

    def test_a_queue_keeps_steps_from_racing(self):
        self.assertEqual(pairs_of(build("put x 1; send q 1", "take a q; get a x"), (0, 0, 1, 1)), [])

    def test_another_lock_does_not(self):
        program = build("lock m; put x 1; unlock m", "lock n; get a x; unlock n")
        self.assertEqual(pairs_of(program, (0, 0, 0, 1, 1, 1)), [(1, 4, "x")])

    def test_several_variables_in_a_row_of_a_program(self):
        program = build("put y 1; put x 1", "get a y; get a x")
        self.assertEqual(pairs_of(program, (0, 1, 0, 1)), [(0, 1, "y"), (2, 3, "x")])
        self.assertEqual(pairs_of(program, (0, 0, 1, 1)), [(0, 2, "y"), (1, 3, "x")])
        program = build("put y 1; put x 1", "get a x; get a y")
        self.assertEqual(pairs_of(program, (0, 0, 1, 1)), [(1, 2, "x")])

    def test_several_variables_of_two_steps(self):
        program = build("get a x", "put x 1")
        self.assertEqual(race_pairs(program, (act(0, "y", "x!"), act(1, "y!", "x"))), [(0, 1, "x"), (0, 1, "y")])
        self.assertEqual(race_pairs(program, (act(0, "x", "y"), act(1, "x", "y!"))), [(0, 1, "y")])
        self.assertEqual(race_pairs(program, (act(0, "x!"), act(1, "y!"))), [])

    def test_only_variables(self):
        program = build("get a x", "put x 1")
        self.assertEqual(race_pairs(program, (act(0, "m!"), act(1, "m!"))), [])
        self.assertEqual(race_pairs(program, (act(0, "m!", "q!", "w!", "x"), act(1, "w", "q!", "m!", "x!"))),
                         [(0, 1, "x")])

    def test_pairs_rise(self):
        program = build("get a x; get a y", "get a x; get a y", "put x 1; put y 1")
        self.assertEqual(pairs_of(program, (0, 1, 0, 1, 2, 2)), [(0, 4, "x"), (1, 4, "x"), (2, 5, "y"), (3, 5, "y")])
        program = build("put x 1; get a y", "get a x", "put y 1")
        self.assertEqual(pairs_of(program, (0, 2, 0, 1)), [(0, 3, "x"), (1, 2, "y")])

    def test_each_execution(self):
        found = 0
        for program in PROGRAMS:
            for _, steps, _ in executions(program, LIMIT, 3000):
                expected = pairs_by_trying(program, steps)
                self.assertEqual(race_pairs(program, steps), expected)
                found += len(expected)
        self.assertGreater(found, 300)

    def test_the_list_is_new(self):
        program = build("get a x", "put x 1")
        pairs_of(program, (0, 1)).clear()
        self.assertEqual(pairs_of(program, (0, 1)), [(0, 1, "x")])


class RacesTest(unittest.TestCase):
    def test_empty_row(self):
        self.assertEqual(races(build("stop"), ()), [])

    def test_the_lower_thread_first(self):
        program = build("let a = 1; get a x", "stop", "put x 1")
        self.assertEqual(races_of(program, (0, 0, 2)), [("race", 0, 1, 2, 0, "x")])
        self.assertEqual(races_of(program, (2, 0, 0)), [("race", 0, 1, 2, 0, "x")])

    def test_in_the_order_of_the_pairs(self):
        program = build("put x 1; put y 1", "get a y; get a x")
        self.assertEqual(races_of(program, (0, 1, 0, 1)), [("race", 0, 0, 1, 1, "x"), ("race", 0, 1, 1, 0, "y")])
        self.assertEqual(races_of(program, (1, 0, 0, 1)), [("race", 0, 1, 1, 0, "y"), ("race", 0, 0, 1, 1, "x")])

    def test_each_pair_is_told(self):
        program = build("put x 1; go 0", "get a x; go 0")
        self.assertEqual(races_of(program, (0, 1, 0, 1, 0, 1)), [("race", 0, 0, 1, 0, "x")] * 3)

    def test_several_variables_of_two_steps(self):
        program = build("get a x", "put x 1")
        self.assertEqual(races(program, (act(1, "y", "x"), act(0, "x!", "y!"))),
                         [("race", 0, 0, 1, 0, "x"), ("race", 0, 0, 1, 0, "y")])

    def test_a_program_that_loses_an_addition(self):
        program = build("get a x; put x a + 1", "get a x; put x a + 1", things="var x = 0\n")
        self.assertEqual(races_of(program, (0, 0, 1, 1)), [("race", 0, 1, 1, 0, "x")])
        self.assertEqual(races_of(program, (0, 1, 0, 1)), [("race", 0, 1, 1, 0, "x"), ("race", 0, 1, 1, 1, "x")])
        self.assertEqual(races_of(program, (0, 1, 1, 0)), [("race", 0, 0, 1, 1, "x"), ("race", 0, 1, 1, 1, "x")])

    def test_each_execution(self):
        for program in PROGRAMS:
            for _, steps, _ in executions(program, LIMIT, 3000):
                told = []
                for i, j, name in race_pairs(program, steps):
                    low, high = sorted((steps[i], steps[j]))
                    told.append(("race", low[0], low[1], high[0], high[1], name))
                self.assertEqual(races(program, steps), told)

    def test_equivalent_executions_have_the_same(self):
        for program in PROGRAMS[:30]:
            for _, steps, _ in complete(program, LIMIT)[::7]:
                for other in class_of(steps)[:20]:
                    self.assertEqual(sorted(races(program, other)), sorted(races(program, steps)))


if __name__ == "__main__":
    unittest.main()
