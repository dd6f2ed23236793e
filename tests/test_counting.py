"""[x4]: the number of all executions."""

import unittest
from math import factorial

from everyturn.classes import class_size
from everyturn.counting import count_executions
from everyturn.exploring import executions
from helper import LIMIT, PROGRAMS, build, complete


class CountExecutionsTest(unittest.TestCase):
    def test_limit_of_no_step(self):
        for program in (build("stop"), build("take a q"), build("go 0", "go 0", things="")):
            self.assertEqual(count_executions(program, 0), 1)

    def test_final_first_state(self):
        program = build("take a q", "take b q")
        for limit in (0, 1, 40):
            self.assertEqual(count_executions(program, limit), 1)

    def test_one_thread(self):
        self.assertEqual(count_executions(build("let a = 1; let a = 2; stop"), 40), 1)
        self.assertEqual(count_executions(build("go 0"), 40), 1)

    def test_each_enabled_thread_in_its_turn(self):
        program = build("let a = 1; let a = 2", "let a = 1; let a = 2")
        self.assertEqual([count_executions(program, limit) for limit in range(6)], [1, 2, 4, 6, 6, 6])

    def test_blocked_threads_make_no_executions(self):
        program = build("lock m; let a = 1; unlock m", "lock m; let a = 1; unlock m")
        self.assertEqual(count_executions(program, 40), 2)
        program = build("lock m; lock n", "lock n; lock m")
        # Each thread takes both locks and the other one is left at its first, or both take one and are stuck.
        self.assertEqual(count_executions(program, 40), 4)

    def test_executions_of_different_lengths(self):
        program = build("stop; let a = 1", "check 0; let a = 1; let a = 2", "check 1")
        self.assertEqual(count_executions(program, 40), 6)
        program = build("lock m", "lock m; let a = 1; let a = 2")
        self.assertEqual([count_executions(program, limit) for limit in range(5)], [1, 2, 2, 2, 2])

    def test_states_that_are_reached_by_several_schedules(self):
        program = build("put x 0", "put x 0", things="var x = 0\n")
        self.assertEqual(count_executions(program, 40), 2)

    def test_each_program(self):
        for program in PROGRAMS:
            for limit in (0, 1, 3, LIMIT):
                self.assertEqual(count_executions(program, limit), len(complete(program, limit)))

    def test_the_sum_of_the_sizes_of_the_classes(self):
        for program in PROGRAMS:
            for limit in (LIMIT, 8):
                sizes = [class_size(steps) for _, steps, _ in executions(program, limit, 3000)]
                self.assertEqual(count_executions(program, limit), sum(sizes))

    def test_more_executions_than_can_be_tried(self):
        self.assertEqual(count_executions(build("go 0", "go 0", "go 0", "go 0"), 40), 4 ** 40)
        ten = "; ".join(["let a = 1"] * 10)
        self.assertEqual(count_executions(build(ten, ten, ten, ten), 40), factorial(40) // factorial(10) ** 4)
        self.assertEqual(count_executions(build("add x 1; go 0", "add x -1; go 0", things="var x = 0\n"), 40), 2 ** 40)


if __name__ == "__main__":
    unittest.main()
