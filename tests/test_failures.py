"""[f1], [f2]: failures, deadlocks and rings."""

import unittest

from everyturn.failures import deadlocks, failures, rings
from everyturn.machine import blocked, enabled
from everyturn.schedules import run
from helper import LIMIT, PROGRAMS, act, build, class_of, complete, possible

THREE_LOCKS = "lock e\nlock f\nlock g\nqueue q 1\ncond w of e\nvar x = 0\n"


def state_behind(program, schedule):
    return run(program, schedule)[0]


class FailuresTest(unittest.TestCase):
    def test_without_failures(self):
        self.assertEqual(failures(()), [])
        self.assertEqual(failures((act(0, "x!"), act(1, "m!"))), [])

    def test_each_word(self):
        program = build("let a = 99 + 1", "check a", "unlock m", "add x 98")
        self.assertEqual(failures(run(program, (0, 1, 2, 3))[1]),
                         [("failure", 0, 0, "range"), ("failure", 1, 0, "check"), ("failure", 2, 0, "owner"),
                          ("failure", 3, 0, "range")])

    def test_in_the_order_of_the_row(self):
        program = build("let a = 1; check a; check a < 1", "stop", "wait w; let a = 1")
        self.assertEqual(failures(run(program, (2, 0, 0, 1, 0))[1]),
                         [("failure", 2, 0, "owner"), ("failure", 0, 2, "check")])
        self.assertEqual(failures(run(program, (0, 0, 0, 2))[1]),
                         [("failure", 0, 2, "check"), ("failure", 2, 0, "owner")])

    def test_failures_before_and_behind_other_steps(self):
        program = build("check 0", "put x 1; put x 2")
        self.assertEqual(failures(run(program, (0, 1))[1]), [("failure", 0, 0, "check")])
        self.assertEqual(failures(run(program, (1, 1, 0))[1]), [("failure", 0, 0, "check")])
        self.assertEqual(failures(run(program, (1, 1))[1]), [])

    def test_equivalent_rows_have_the_same(self):
        for program in PROGRAMS[:30]:
            for _, steps, _ in possible(program, LIMIT - 1)[::5]:
                for other in class_of(steps):
                    self.assertEqual(sorted(failures(other)), sorted(failures(steps)))

    def test_the_list_is_new(self):
        steps = (act(0, word="check"),)
        failures(steps).clear()
        self.assertEqual(failures(steps), [("failure", 0, 0, "check")])


class DeadlocksTest(unittest.TestCase):
    def test_deadlock(self):
        program = build("lock m; lock n", "lock n; lock m")
        self.assertEqual(deadlocks(program, state_behind(program, (0, 1))), [("deadlock", ((0, "n"), (1, "m")))])

    def test_threads_that_can_go_on(self):
        program = build("lock m; lock n", "lock n; lock m")
        for schedule in ((), (0,), (1,)):
            self.assertEqual(deadlocks(program, state_behind(program, schedule)), [])

    def test_some_thread_blocked_and_another_one_not(self):
        program = build("lock m; lock m", "stop")
        self.assertEqual(deadlocks(program, state_behind(program, (0,))), [])
        self.assertEqual(deadlocks(program, state_behind(program, (0, 1))), [("deadlock", ((0, "m"),))])

    def test_all_threads_over(self):
        program = build("let a = 1", "check 0", "stop")
        self.assertEqual(deadlocks(program, state_behind(program, (0, 1, 2))), [])

    def test_final_first_state(self):
        program = build("take a q", "take b q", things="queue q 1\n")
        self.assertEqual(deadlocks(program, state_behind(program, ())), [("deadlock", ((0, "q"), (1, "q")))])

    def test_all_that_threads_are_blocked_on(self):
        program = build("lock m; wait w", "lock m; lock m", "take a q", "stop")
        self.assertEqual(deadlocks(program, state_behind(program, (0, 0, 1, 3))),
                         [("deadlock", ((0, "w"), (1, "m"), (2, "q")))])

    def test_a_failed_thread_that_keeps_its_lock(self):
        program = build("lock m; check 0", "lock m")
        self.assertEqual(deadlocks(program, state_behind(program, (0, 0))), [("deadlock", ((1, "m"),))])

    def test_each_program(self):
        for program in PROGRAMS:
            for _, _, state in complete(program, LIMIT):
                stuck = blocked(program, state)
                expected = [("deadlock", stuck)] if not enabled(program, state) and stuck else []
                self.assertEqual(deadlocks(program, state), expected)


class RingsTest(unittest.TestCase):
    def test_two_threads(self):
        program = build("lock m; lock n", "lock n; lock m")
        self.assertEqual(rings(program, state_behind(program, (0, 1))), [(0, 1)])

    def test_no_ring(self):
        program = build("lock m; lock n", "lock n; lock m")
        for schedule in ((), (0,), (1,), (0, 0), (1, 1)):
            self.assertEqual(rings(program, state_behind(program, schedule)), [])

    def test_a_thread_that_is_blocked_on_its_own_lock(self):
        program = build("stop", "lock m; lock m; stop", "lock n; lock n")
        self.assertEqual(rings(program, state_behind(program, (1,))), [(1,)])
        self.assertEqual(rings(program, state_behind(program, (2, 1))), [(1,), (2,)])

    def test_a_ring_in_a_state_that_is_not_final(self):
        program = build("let a = 1", "lock m; lock n", "lock n; lock m")
        self.assertEqual(rings(program, state_behind(program, (1, 2))), [(1, 2)])

    def test_three_threads_in_both_directions(self):
        program = build("lock e; lock f", "lock f; lock g", "lock g; lock e", things=THREE_LOCKS)
        self.assertEqual(rings(program, state_behind(program, (0, 1, 2))), [(0, 1, 2)])
        program = build("lock e; lock g", "lock f; lock e", "lock g; lock f", things=THREE_LOCKS)
        self.assertEqual(rings(program, state_behind(program, (2, 0, 1))), [(0, 2, 1)])

    def test_a_thread_that_is_blocked_by_a_ring(self):
        # The way of thread 0 comes to the ring at thread 3, but the ring begins with thread 1.
        program = build("lock g", "lock e; lock g", "lock f; lock e", "lock g; lock f", things=THREE_LOCKS)
        self.assertEqual(rings(program, state_behind(program, (1, 2, 3))), [(1, 3, 2)])

    def test_a_thread_behind_one_that_is_blocked_on_its_own_lock(self):
        program = build("lock n; lock m", "lock n", "lock m; lock m")
        self.assertEqual(rings(program, state_behind(program, (0, 2))), [(2,)])

    def test_two_rings(self):
        program = build("lock e; lock f", "lock g; lock h", "lock h; lock g", "lock f; lock e",
                        things="lock e\nlock f\nlock g\nlock h\n")
        self.assertEqual(rings(program, state_behind(program, (3, 2, 1, 0))), [(0, 3), (1, 2)])

    def test_a_chain_that_ends(self):
        program = build("lock e; lock f", "lock f; take a q", "lock g; lock e", things=THREE_LOCKS)
        self.assertEqual(rings(program, state_behind(program, (0, 1, 2))), [])
        program = build("lock e; stop", "lock f; lock e", "lock g; lock f", things=THREE_LOCKS)
        self.assertEqual(rings(program, state_behind(program, (0, 1, 2, 0))), [])

    def test_threads_that_are_blocked_on_queues_and_conditions(self):
        program = build("lock f; lock e; wait w", "lock e; lock f", things=THREE_LOCKS)
        state = state_behind(program, (0, 0, 0, 1))
        self.assertEqual(blocked(program, state), ((0, "w"), (1, "f")))
        self.assertEqual(rings(program, state), [])
        program = build("take a q", "take a q", things=THREE_LOCKS)
        self.assertEqual(rings(program, state_behind(program, ())), [])

    def test_a_woken_thread(self):
        program = build("lock f; lock e; wait w", "lock e; notify w; lock f", things=THREE_LOCKS)
        state = state_behind(program, (0, 0, 0, 1, 1))
        self.assertEqual(blocked(program, state), ((0, "e"), (1, "f")))
        self.assertEqual(rings(program, state), [(0, 1)])

    def test_each_state(self):
        for program in PROGRAMS:
            for _, _, state in possible(program, LIMIT):
                self.assertEqual(rings(program, state), rings_by_trying(program, state))


def rings_by_trying(program, state):
    """The rings of a state, by the words of [f2], for up to three threads."""
    locks = [thing[1] for thing in program[0] if thing[0] == "lock"]
    needs = dict(blocked(program, state))
    ways = [(), (0,), (1,), (2,), (0, 1), (0, 2), (1, 2), (0, 1, 2), (0, 2, 1)]
    return [way for way in sorted(ways) if way and all(
        needs.get(thread) in locks and state[1][locks.index(needs[thread])] == following
        for thread, following in zip(way, way[1:] + way[:1]))]


if __name__ == "__main__":
    unittest.main()
