"""[m8]: schedules that are run, those that are not possible, and switches."""

import unittest

from everyturn.errors import NotEnabled, TurnError
from everyturn.machine import first_state
from everyturn.schedules import run, switches
from helper import LIMIT, PROGRAMS, ZERO, act, build, possible


class RunTest(unittest.TestCase):
    def assert_stops(self, program, schedule, at):
        """Check that a schedule is not possible from an index on, and is possible up to it."""
        run(program, schedule[:at])
        with self.assertRaises(NotEnabled) as caught:
            run(program, schedule)
        self.assertEqual(caught.exception.at, at)
        self.assertIsInstance(caught.exception, TurnError)

    def test_empty_schedule(self):
        program = build("put x 1")
        self.assertEqual(run(program, ()), (first_state(program), ()))

    def test_state_and_steps(self):
        program = build("get a x; put y a + 1", "lock m; check 0")
        state, steps = run(program, (1, 0, 0, 1))
        self.assertEqual(state, ((2, 3), (1, None), ((),), ((),),
                                 ((2, (2, 0, 0, 0), "over", None), (1, ZERO, "over", "check"))))
        self.assertEqual(steps, (act(1, "m!"), act(0, "x"), act(0, "y!", pc=1), act(1, pc=1, word="check")))
        self.assertIsInstance(steps, tuple)

    def test_the_order_of_turns_matters(self):
        program = build("put x 5", "get a x")
        self.assertEqual(run(program, (0, 1))[0][4][1][1], (5, 0, 0, 0))
        self.assertEqual(run(program, (1, 0))[0][4][1][1], (2, 0, 0, 0))

    def test_each_possible_schedule(self):
        for program in PROGRAMS:
            for schedule, steps, state in possible(program, LIMIT - 1):
                self.assertEqual(run(program, schedule), (state, steps))

    def test_a_long_schedule(self):
        program = build("add x 1; go 0", things="var x = 0\n")
        state, steps = run(program, (0,) * 40)
        self.assertEqual(state, ((20,), (), (), (), ((0, ZERO, "run", None),)))
        self.assertEqual(len(steps), 40)

    def test_blocked_on_a_lock(self):
        program = build("lock m; stop", "lock m; stop")
        self.assert_stops(program, (0, 1), 1)
        self.assert_stops(program, (1, 0, 0, 0), 1)

    def test_blocked_on_a_queue(self):
        self.assert_stops(build("take a q"), (0,), 0)
        self.assert_stops(build("send q 1; send q 2; send q 3", "take a q"), (0, 0, 0, 1), 2)

    def test_waiting_and_woken_threads(self):
        program = build("lock m; wait w; stop", "lock m; notify w; unlock m")
        self.assert_stops(program, (0, 0, 0), 2)
        self.assert_stops(program, (0, 0, 1, 1, 0), 4)
        self.assertEqual(run(program, (0, 0, 1, 1, 1, 0))[1][-1], act(0, "m!", "w", pc=1))

    def test_threads_that_are_over(self):
        self.assert_stops(build("let a = 1"), (0, 0), 1)
        self.assert_stops(build("stop; stop", "stop"), (0, 1, 0), 2)
        self.assert_stops(build("check 0; stop", "stop"), (0, 0, 0), 1)

    def test_the_first_of_several_turns_that_are_not_enabled(self):
        program = build("stop", "take a q", "stop")
        self.assert_stops(program, (0, 2, 1, 1, 0, 0), 2)
        self.assert_stops(program, (0, 0, 1), 1)


class SwitchesTest(unittest.TestCase):
    def test_without_switches(self):
        for schedule in ((), (0,), (3,), (2, 2, 2, 2)):
            self.assertEqual(switches(schedule), 0, schedule)

    def test_with_switches(self):
        for schedule, many in (((0, 1), 1), ((1, 0), 1), ((0, 0, 1, 1), 1), ((0, 1, 0), 2), ((0, 1, 2, 3), 3),
                               ((0, 2, 0, 0, 1, 1, 0), 4), ((0, 1) * 20, 39)):
            self.assertEqual(switches(schedule), many, schedule)

    def test_a_schedule_that_is_possible_for_no_program_has_switches(self):
        self.assertEqual(switches((3, 0, 3)), 2)


if __name__ == "__main__":
    unittest.main()
