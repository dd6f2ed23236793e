"""[m1] to [m6], [c3]: states, enabled and blocked threads, steps, deadlocks."""

import unittest

from everyturn.machine import blocked, enabled, first_state, is_deadlock, make_step
from helper import ZERO, build


def play(program, schedule):
    """The last state and the steps of a schedule whose threads are all enabled in their turns."""
    state, steps = first_state(program), []
    for thread in schedule:
        if thread not in enabled(program, state):
            raise AssertionError(f"thread {thread} is not enabled behind {steps}")
        state, step = make_step(program, state, thread)
        steps.append(step)
    return state, steps


def state_of(values=(2, -7), owners=(None, None), items=(), waiting=(), threads=()):
    """A state for the shared things of helper.build."""
    return (values, owners, (items,), (waiting,), threads)


class FirstStateTest(unittest.TestCase):
    def test_with_all_kinds_of_things(self):
        program = build("stop", "get a x")
        self.assertEqual(first_state(program), ((2, -7), (None, None), ((),), ((),),
                                                ((0, ZERO, "run", None), (0, ZERO, "run", None))))

    def test_without_shared_things(self):
        self.assertEqual(first_state(build("stop", things="")), ((), (), (), (), ((0, ZERO, "run", None),)))

    def test_things_of_one_kind_in_their_order(self):
        program = build("stop", "stop", "stop", things="var z = -99\nlock m\nvar e = 99\ncond w of m\nqueue q 1\n"
                                                      "cond v of m\n")
        self.assertEqual(first_state(program), ((-99, 99), (None,), ((),), ((), ()), ((0, ZERO, "run", None),) * 3))

    def test_four_threads_are_all_enabled(self):
        program = build("stop", "stop", "stop", "stop")
        self.assertEqual(enabled(program, first_state(program)), (0, 1, 2, 3))
        self.assertEqual(blocked(program, first_state(program)), ())


class StepTest(unittest.TestCase):
    def assert_step(self, program, schedule, state, touches, word=None):
        """Check the state behind a schedule, and the touches and the word of its last step."""
        before = play(program, schedule[:-1])[0]
        told = make_step(program, before, schedule[-1])
        pc = before[4][schedule[-1]][0]
        self.assertEqual(told, (state, (schedule[-1], pc, touches, word)))
        self.assertEqual(play(program, schedule)[0], state)

    def assert_cannot(self, program, schedule, thread, name):
        """Check that a thread is blocked on a thing behind a schedule."""
        state = play(program, schedule)[0]
        self.assertNotIn(thread, enabled(program, state))
        self.assertIn((thread, name), blocked(program, state))

    def assert_can(self, program, schedule, thread):
        state = play(program, schedule)[0]
        self.assertIn(thread, enabled(program, state))
        self.assertNotIn(thread, [entry[0] for entry in blocked(program, state)])


class RegistersAndVariablesTest(StepTest):
    def test_let(self):
        program = build("let a = 5; let b = a * 3 - 1; let c = -b; let d = a < b; let a = a + a; stop")
        registers = [(5, 0, 0, 0), (5, 14, 0, 0), (5, 14, -14, 0), (5, 14, -14, 1), (10, 14, -14, 1)]
        for at, expected in enumerate(registers):
            self.assert_step(program, (0,) * (at + 1), state_of(threads=((at + 1, expected, "run", None),)), ())

    def test_get(self):
        program = build("get a x; get d y; stop")
        self.assert_step(program, (0,), state_of(threads=((1, (2, 0, 0, 0), "run", None),)), (("x", False),))
        self.assert_step(program, (0, 0), state_of(threads=((2, (2, 0, 0, -7), "run", None),)), (("y", False),))

    def test_put(self):
        program = build("put y 40; put x -1 - 1; stop")
        self.assert_step(program, (0,), state_of((2, 40), threads=((1, ZERO, "run", None),)), (("y", True),))
        self.assert_step(program, (0, 0), state_of((-2, 40), threads=((2, ZERO, "run", None),)), (("x", True),))

    def test_put_of_the_same_value(self):
        program = build("put x 2; stop")
        self.assert_step(program, (0,), state_of(threads=((1, ZERO, "run", None),)), (("x", True),))

    def test_registers_belong_to_their_threads(self):
        program = build("let a = 1; put x a; stop", "let a = 9; put y a; stop")
        state = play(program, (1, 0, 0, 1))[0]
        self.assertEqual(state, state_of((1, 9), threads=((2, (1, 0, 0, 0), "run", None),
                                                          (2, (9, 0, 0, 0), "run", None))))

    def test_add(self):
        program = build("let a = 50; add x a - 1; add y -a; stop")
        running = (50, 0, 0, 0)
        self.assert_step(program, (0, 0), state_of((51, -7), threads=((2, running, "run", None),)), (("x", True),))
        self.assert_step(program, (0, 0, 0), state_of((51, -57), threads=((3, running, "run", None),)),
                         (("y", True),))

    def test_add_up_to_the_edges(self):
        program = build("add x 97; stop", "add y -92; stop")
        self.assert_step(program, (0,), state_of((99, -7), threads=((1, ZERO, "run", None), (0, ZERO, "run", None))),
                         (("x", True),))
        self.assert_step(program, (1,), state_of((2, -99), threads=((0, ZERO, "run", None), (1, ZERO, "run", None))),
                         (("y", True),))

    def test_add_beyond_the_edges(self):
        program = build("add x 98; stop", "add y -93; stop")
        self.assert_step(program, (0,), state_of(threads=((0, ZERO, "over", "range"), (0, ZERO, "run", None))),
                         (("x", True),), "range")
        self.assert_step(program, (1,), state_of(threads=((0, ZERO, "run", None), (0, ZERO, "over", "range"))),
                         (("y", True),), "range")

    def test_none_of_them_is_ever_blocked(self):
        for line in ("let a = 1", "get a x", "put x 1", "add x 1", "check 1", "go 0", "go 0 if a", "unlock m", "stop",
                     "notify w", "notify all w", "wait w"):
            program = build("lock m; stop", "send q 1; send q 2; stop", line)
            self.assert_can(program, (0, 1, 1), 2)


class LocksTest(StepTest):
    def test_lock(self):
        program = build("lock m; stop", "lock n; stop")
        self.assert_step(program, (0,), state_of(owners=(0, None), threads=((1, ZERO, "run", None),
                                                                             (0, ZERO, "run", None))), (("m", True),))
        self.assert_step(program, (0, 1), state_of(owners=(0, 1), threads=((1, ZERO, "run", None),
                                                                            (1, ZERO, "run", None))), (("n", True),))

    def test_lock_is_blocked_while_another_thread_owns_it(self):
        program = build("lock m; unlock m; stop", "lock m; stop")
        self.assert_can(program, (), 1)
        self.assert_cannot(program, (0,), 1, "m")
        self.assert_can(program, (0, 0), 1)
        self.assert_step(program, (0, 0, 1), state_of(owners=(1, None), threads=((2, ZERO, "run", None),
                                                                                  (1, ZERO, "run", None))),
                         (("m", True),))

    def test_lock_is_blocked_while_this_thread_owns_it(self):
        program = build("lock n; lock n; stop", "stop")
        self.assert_cannot(program, (0,), 0, "n")

    def test_another_lock_is_free(self):
        program = build("lock m; lock n; stop", "lock n; stop")
        self.assert_can(program, (0,), 0)
        self.assert_can(program, (0,), 1)
        self.assert_cannot(program, (0, 0), 1, "n")

    def test_unlock(self):
        program = build("lock m; lock n; unlock m; unlock n; stop")
        self.assert_step(program, (0, 0, 0), state_of(owners=(None, 0), threads=((3, ZERO, "run", None),)),
                         (("m", True),))
        self.assert_step(program, (0, 0, 0, 0), state_of(threads=((4, ZERO, "run", None),)), (("n", True),))

    def test_unlock_of_a_lock_without_an_owner(self):
        program = build("unlock m; stop")
        self.assert_step(program, (0,), state_of(threads=((0, ZERO, "over", "owner"),)), (("m", True),), "owner")

    def test_unlock_of_a_lock_of_another_thread(self):
        program = build("lock m; stop", "lock n; unlock m; stop")
        self.assert_step(program, (0, 1, 1), state_of(owners=(0, 1), threads=((1, ZERO, "run", None),
                                                                               (1, ZERO, "over", "owner"))),
                         (("m", True),), "owner")

    def test_unlock_twice(self):
        program = build("lock m; unlock m; unlock m; stop")
        self.assert_step(program, (0, 0, 0), state_of(threads=((2, ZERO, "over", "owner"),)), (("m", True),), "owner")


class ConditionsTest(StepTest):
    waiting = (1, ZERO, "wait", None)
    woken = (1, ZERO, "woken", None)
    begun = (0, ZERO, "run", None)

    def test_wait(self):
        program = build("lock m; wait w; stop", "stop")
        self.assert_step(program, (0, 0), state_of(waiting=(0,), threads=(self.waiting, self.begun)),
                         (("m", True), ("w", True)))
        self.assert_cannot(program, (0, 0), 0, "w")

    def test_wait_without_its_lock(self):
        program = build("wait w; stop", "stop")
        self.assert_step(program, (0,), state_of(threads=((0, ZERO, "over", "owner"), self.begun)),
                         (("m", True), ("w", True)), "owner")

    def test_wait_while_another_thread_owns_its_lock(self):
        program = build("lock m; stop", "lock n; wait w; stop")
        self.assert_step(program, (0, 1, 1), state_of(owners=(0, 1), threads=((1, ZERO, "run", None),
                                                                               (1, ZERO, "over", "owner"))),
                         (("m", True), ("w", True)), "owner")

    def test_the_lock_of_the_condition_is_the_one_that_matters(self):
        program = build("lock n; lock m; wait v; stop", things="lock m\nlock n\ncond w of m\ncond v of n\n")
        self.assert_step(program, (0, 0, 0), ((), (0, None), (), ((), (0,)), ((2, ZERO, "wait", None),)),
                         (("n", True), ("v", True)))

    def test_the_last_one_waits_behind_the_others(self):
        program = build(*["lock m; wait w; stop"] * 3)
        self.assert_step(program, (1, 1, 2, 2, 0, 0), state_of(waiting=(1, 2, 0), threads=(self.waiting,) * 3),
                         (("m", True), ("w", True)))

    def test_notify_wakes_the_thread_that_waits_longest(self):
        program = build(*["lock m; wait w; stop"] * 2, "notify w; notify w; notify w; stop")
        ahead = (1, 1, 0, 0)
        self.assert_step(program, ahead + (2,), state_of(waiting=(0,), threads=(self.waiting, self.woken,
                                                                                (1, ZERO, "run", None))),
                         (("w", True),))
        self.assert_step(program, ahead + (2, 2), state_of(threads=(self.woken, self.woken, (2, ZERO, "run", None))),
                         (("w", True),))
        self.assert_step(program, ahead + (2, 2, 2), state_of(threads=(self.woken, self.woken,
                                                                       (3, ZERO, "run", None))), (("w", True),))

    def test_notify_without_a_waiting_thread(self):
        program = build("lock m; wait w; stop", "notify w; stop")
        self.assert_step(program, (1,), state_of(threads=(self.begun, (1, ZERO, "run", None))), (("w", True),))
        self.assert_step(program, (1, 0, 0), state_of(waiting=(0,), threads=(self.waiting, (1, ZERO, "run", None))),
                         (("m", True), ("w", True)))

    def test_notify_all(self):
        program = build(*["lock m; wait w; stop"] * 3, "notify all w; notify all w; stop")
        ahead = (2, 2, 0, 0, 1, 1)
        self.assert_step(program, ahead + (3,), state_of(threads=(self.woken,) * 3 + ((1, ZERO, "run", None),)),
                         (("w", True),))
        self.assert_step(program, ahead + (3, 3), state_of(threads=(self.woken,) * 3 + ((2, ZERO, "run", None),)),
                         (("w", True),))

    def test_notify_all_without_a_waiting_thread(self):
        program = build("notify all w; stop")
        self.assert_step(program, (0,), state_of(threads=((1, ZERO, "run", None),)), (("w", True),))

    def test_a_notice_is_for_its_condition_alone(self):
        things = "lock m\ncond w of m\ncond v of m\n"
        for line in ("notify v", "notify all v"):
            program = build("lock m; wait w; stop", line + "; stop", things=things)
            self.assert_step(program, (0, 0, 1), ((), (None,), (), ((0,), ()), (self.waiting, (1, ZERO, "run", None))),
                             (("v", True),))

    def test_a_woken_thread_takes_its_lock_again(self):
        program = build("lock m; wait w; stop", "notify w; stop")
        self.assert_can(program, (0, 0, 1), 0)
        self.assert_step(program, (0, 0, 1, 0), state_of(owners=(0, None), threads=((2, ZERO, "run", None),
                                                                                    (1, ZERO, "run", None))),
                         (("m", True), ("w", False)))

    def test_a_woken_thread_is_blocked_while_its_lock_has_an_owner(self):
        program = build("lock m; wait w; stop", "lock m; notify w; unlock m; stop")
        self.assert_cannot(program, (0, 0), 0, "w")
        self.assert_cannot(program, (0, 0, 1), 0, "w")
        self.assert_cannot(program, (0, 0, 1, 1), 0, "m")
        self.assert_can(program, (0, 0, 1, 1, 1), 0)

    def test_a_woken_thread_with_another_condition(self):
        program = build("lock n; wait v; stop", "notify v; lock m; lock n; stop",
                        things="lock m\nlock n\ncond w of m\ncond v of n\n")
        self.assert_can(program, (0, 0, 1, 1), 0)
        self.assert_cannot(program, (0, 0, 1, 1, 1), 0, "n")
        self.assert_step(program, (0, 0, 1, 0), ((), (None, 0), (), ((), ()), ((2, ZERO, "run", None),
                                                                               (1, ZERO, "run", None))),
                         (("n", True), ("v", False)))

    def test_two_woken_threads_take_the_lock_one_behind_the_other(self):
        program = build(*["lock m; wait w; unlock m; stop"] * 2, "notify all w; stop")
        ahead = (0, 0, 1, 1, 2)
        self.assertEqual(enabled(program, play(program, ahead)[0]), (0, 1, 2))
        self.assert_cannot(program, ahead + (1,), 0, "m")
        self.assert_can(program, ahead + (1, 1), 0)
        self.assert_step(program, ahead + (1, 1, 0), state_of(owners=(0, None), threads=(
            (2, ZERO, "run", None), (3, ZERO, "run", None), (1, ZERO, "run", None))), (("m", True), ("w", False)))

    def test_a_wait_at_the_end_of_a_thread(self):
        program = build("lock m; wait w", "notify w")
        self.assert_step(program, (0, 0), state_of(waiting=(0,), threads=(self.waiting, self.begun)),
                         (("m", True), ("w", True)))
        self.assert_step(program, (0, 0, 1, 0), state_of(owners=(0, None), threads=((2, ZERO, "over", None),
                                                                                    (1, ZERO, "over", None))),
                         (("m", True), ("w", False)))

    def test_waiting_again(self):
        program = build("lock m; wait w; go 1", "notify w; notify w; stop")
        self.assert_step(program, (0, 0, 1, 0, 0, 0), state_of(waiting=(0,), threads=(self.waiting,
                                                                                       (1, ZERO, "run", None))),
                         (("m", True), ("w", True)))

    def test_registers_stay_through_waiting(self):
        program = build("let b = 6; lock m; wait w; stop", "notify w; stop")
        held = (0, 6, 0, 0)
        self.assertEqual(play(program, (0, 0, 0))[0][4][0], (2, held, "wait", None))
        self.assertEqual(play(program, (0, 0, 0, 1))[0][4][0], (2, held, "woken", None))
        self.assertEqual(play(program, (0, 0, 0, 1, 0))[0][4][0], (3, held, "run", None))


class QueuesTest(StepTest):
    def test_send(self):
        program = build("send q 5; let a = 3; send q a * 2; stop")
        self.assert_step(program, (0,), state_of(items=(5,), threads=((1, ZERO, "run", None),)), (("q", True),))
        self.assert_step(program, (0, 0, 0), state_of(items=(5, 6), threads=((3, (3, 0, 0, 0), "run", None),)),
                         (("q", True),))

    def test_send_is_blocked_while_the_queue_is_full(self):
        program = build("send q 1; send q 2; send q 3; stop", "take a q; stop")
        self.assert_can(program, (0,), 0)
        self.assert_cannot(program, (0, 0), 0, "q")
        self.assert_can(program, (0, 0, 1), 0)
        self.assertEqual(play(program, (0, 0, 1, 0))[0][2], ((2, 3),))

    def test_each_size(self):
        for size in (1, 2, 3):
            program = build("send p 7; go 0", things=f"queue q 3\nqueue p {size}\nqueue r 1\n")
            self.assert_can(program, (0,) * 2 * (size - 1), 0)
            self.assert_cannot(program, (0,) * 2 * size, 0, "p")
            self.assertEqual(play(program, (0,) * 2 * size)[0][2], ((), (7,) * size, ()))

    def test_take(self):
        program = build("send q 5; send q -6; stop", "take b q; take d q; stop")
        self.assert_step(program, (0, 0, 1), state_of(items=(-6,), threads=((2, ZERO, "run", None),
                                                                           (1, (0, 5, 0, 0), "run", None))),
                         (("q", True),))
        self.assert_step(program, (0, 0, 1, 1), state_of(threads=((2, ZERO, "run", None),
                                                                  (2, (0, 5, 0, -6), "run", None))), (("q", True),))

    def test_take_is_blocked_while_the_queue_is_empty(self):
        program = build("send q 0; stop", "take a q; take a q; stop")
        self.assert_cannot(program, (), 1, "q")
        self.assert_can(program, (0,), 1)
        self.assert_cannot(program, (0, 1), 1, "q")

    def test_a_send_that_fails_on_a_full_queue(self):
        program = build("send q 1; send q 2; send q 99 + 1; stop")
        self.assert_can(program, (0, 0), 0)
        self.assertEqual(blocked(program, play(program, (0, 0))[0]), ())
        self.assert_step(program, (0, 0, 0), state_of(items=(1, 2), threads=((2, ZERO, "over", "range"),)), (),
                         "range")

    def test_whether_it_fails_is_told_by_the_registers(self):
        program = build("let a = 50; send q 1; send q 2; send q a * 2; stop")
        self.assert_can(program, (0, 0, 0), 0)
        program = build("let a = 49; send q 1; send q 2; send q a * 2; stop")
        self.assert_cannot(program, (0, 0, 0), 0, "q")


class CheckTest(StepTest):
    def test_a_check_that_holds(self):
        for text in ("1", "-1", "99", "not 0", "0 = 0"):
            program = build(f"check {text}; stop")
            self.assert_step(program, (0,), state_of(threads=((1, ZERO, "run", None),)), ())

    def test_a_check_that_does_not_hold(self):
        for text in ("0", "a", "1 - 1", "not 5", "1 = 2"):
            program = build(f"check {text}; stop")
            self.assert_step(program, (0,), state_of(threads=((0, ZERO, "over", "check"),)), (), "check")

    def test_a_failed_thread_keeps_its_registers_and_locks(self):
        program = build("lock m; let c = 8; check c < 8; stop", "lock m; stop")
        self.assert_step(program, (0, 0, 0), state_of(owners=(0, None), threads=((2, (0, 0, 8, 0), "over", "check"),
                                                                                  (0, ZERO, "run", None))),
                         (), "check")
        self.assert_cannot(program, (0, 0, 0), 1, "m")


class GoTest(StepTest):
    def assert_goes(self, line, pc, mode="run"):
        program = build("let a = -1; " + line + "; stop; stop")
        self.assert_step(program, (0, 0), state_of(threads=((pc, (-1, 0, 0, 0), mode, None),)), ())

    def test_without_an_expression(self):
        for pc in range(4):
            self.assert_goes(f"go {pc}", pc)

    def test_with_an_expression_that_is_not_zero(self):
        for text in ("1", "a", "99", "b = 0"):
            self.assert_goes(f"go 0 if {text}", 0)
            self.assert_goes(f"go 3 if {text}", 3)

    def test_with_an_expression_that_is_zero(self):
        for text in ("0", "b", "a + 1", "not a"):
            self.assert_goes(f"go 0 if {text}", 2)
            self.assert_goes(f"go 4 if {text}", 2)

    def test_to_the_end(self):
        self.assert_goes("go 4", 4, "over")
        self.assert_goes("go 4 if a", 4, "over")

    def test_a_go_as_the_last_instruction_that_is_not_followed(self):
        program = build("stop", "go 0 if a")
        self.assert_step(program, (1,), state_of(threads=((0, ZERO, "run", None), (1, ZERO, "over", None))), ())

    def test_a_go_to_itself(self):
        program = build("go 0")
        self.assert_step(program, (0, 0, 0), state_of(threads=((0, ZERO, "run", None),)), ())


class BlocksAndStopTest(StepTest):
    def test_begin_and_end(self):
        program = build("begin; end; stop")
        self.assert_step(program, (0,), state_of(threads=((1, ZERO, "run", None),)), ())
        self.assert_step(program, (0, 0), state_of(threads=((2, ZERO, "run", None),)), ())

    def test_end_as_the_last_instruction(self):
        program = build("begin; end")
        self.assert_step(program, (0, 0), state_of(threads=((2, ZERO, "over", None),)), ())

    def test_stop(self):
        program = build("let a = 4; stop; stop; put x 1")
        self.assert_step(program, (0, 0), state_of(threads=((2, (4, 0, 0, 0), "over", None),)), ())

    def test_stop_as_the_last_instruction(self):
        program = build("stop", "stop")
        self.assert_step(program, (1,), state_of(threads=((0, ZERO, "run", None), (1, ZERO, "over", None))), ())

    def test_a_thread_that_ends_makes_no_step(self):
        for lines in ("stop; put x 1", "go 2; put x 1", "put x 1", "check 0; put x 1", "unlock m; stop"):
            program = build(lines, "stop")
            state = play(program, (0,))[0]
            self.assertEqual(state[4][0][2], "over", lines)
            self.assertEqual(enabled(program, state), (1,), lines)
            self.assertEqual(blocked(program, state), (), lines)

    def test_a_thread_ends_in_the_step_of_its_last_instruction(self):
        for line, part in (("put x 2", 0), ("get a y", 0), ("add x 0", 0), ("lock m", 1), ("notify w", 0),
                           ("notify all w", 0), ("send q 1", 2), ("check 1", 0), ("let b = 0", 0)):
            program = build("let b = 0; " + line)
            state = play(program, (0, 0))[0]
            self.assertEqual(state[4][0][0], 2, line)
            self.assertEqual(state[4][0][2:], ("over", None), line)

    def test_an_ended_thread_keeps_its_locks(self):
        program = build("lock m", "lock m")
        self.assert_cannot(program, (0,), 1, "m")
        self.assertEqual(enabled(program, play(program, (0,))[0]), ())

    def test_a_thread_in_mode_run_at_its_end_is_ended(self):
        program = build("put x 1", "lock m")
        state = state_of(threads=((1, ZERO, "run", None), (0, ZERO, "run", None)))
        self.assertEqual(enabled(program, state), (1,))
        self.assertEqual(blocked(program, state), ())


class FailingExpressionTest(StepTest):
    def test_each_instruction_with_an_expression(self):
        for line in ("let b = a + 1", "put x a + 1", "add x a + 1", "send q a + 1", "check a + 1", "go 0 if a + 1",
                     "go 3 if a * a", "check 0 and a + 1", "put x a + 1 - 1"):
            program = build("let a = 99; " + line + "; stop", "stop")
            self.assert_can(program, (0,), 0)
            self.assert_step(program, (0, 0), state_of(threads=((1, (99, 0, 0, 0), "over", "range"),
                                                                (0, ZERO, "run", None))), (), "range")

    def test_registers_before_the_step(self):
        program = build("let a = 99; let a = a + 1; stop")
        self.assert_step(program, (0, 0), state_of(threads=((1, (99, 0, 0, 0), "over", "range"),)), (), "range")

    def test_a_failed_thread_keeps_its_locks(self):
        program = build("lock n; let a = 50 + 50; unlock n", "lock n; stop")
        self.assert_step(program, (0, 0), state_of(owners=(None, 0), threads=((1, ZERO, "over", "range"),
                                                                              (0, ZERO, "run", None))), (), "range")
        self.assert_cannot(program, (0, 0), 1, "n")

    def test_other_threads_go_on(self):
        program = build("check 0", "get a x; stop")
        self.assert_step(program, (0, 1), state_of(threads=((0, ZERO, "over", "check"),
                                                            (1, (2, 0, 0, 0), "run", None))), (("x", False),))


class EnabledAndBlockedTest(unittest.TestCase):
    def test_both_are_rising(self):
        program = build("lock m; stop", "take a q; stop", "put x 1; stop", "lock m; stop")
        state = play(program, (0,))[0]
        self.assertEqual(enabled(program, state), (0, 2))
        self.assertEqual(blocked(program, state), ((1, "q"), (3, "m")))

    def test_all_kinds_of_blocked_threads(self):
        program = build("lock m; wait w; stop", "lock m; wait w; stop",
                        "lock m; notify w; send q 1; send q 2; send q 3", "lock m; stop")
        state = play(program, (0, 0, 1, 1, 2, 2, 2, 2))[0]
        self.assertEqual(enabled(program, state), ())
        self.assertEqual(blocked(program, state), ((0, "m"), (1, "w"), (2, "q"), (3, "m")))

    def test_kinds_of_what_is_returned(self):
        program = build("take a q; stop")
        state = first_state(program)
        self.assertEqual(enabled(program, state), ())
        self.assertEqual(blocked(program, state), ((0, "q"),))
        self.assertIs(type(enabled(program, state)), tuple)
        self.assertIs(type(blocked(program, state)), tuple)


class DeadlockTest(unittest.TestCase):
    def assert_deadlock(self, expected, program, schedule):
        self.assertIs(is_deadlock(program, play(program, schedule)[0]), expected)

    def test_a_final_state_without_a_blocked_thread(self):
        self.assert_deadlock(False, build("put x 1", "stop; put x 2"), (0, 1))
        self.assert_deadlock(False, build("check 0"), (0,))
        self.assert_deadlock(False, build("lock m"), (0,))

    def test_two_threads_that_want_the_lock_of_the_other(self):
        program = build("lock m; lock n; stop", "lock n; lock m; stop")
        self.assert_deadlock(False, program, ())
        self.assert_deadlock(False, program, (0,))
        self.assert_deadlock(True, program, (0, 1))

    def test_a_thread_that_waits_for_a_condition(self):
        program = build("lock m; wait w; stop", "stop")
        self.assert_deadlock(False, program, (0, 0))
        self.assert_deadlock(True, program, (0, 0, 1))

    def test_a_thread_that_waits_for_its_own_lock(self):
        self.assert_deadlock(True, build("lock m; lock m"), (0,))

    def test_a_lock_that_a_failed_thread_keeps(self):
        self.assert_deadlock(True, build("lock m; check 0", "lock m"), (0, 0))

    def test_a_woken_thread_whose_lock_is_kept(self):
        self.assert_deadlock(True, build("lock m; wait w; stop", "lock m; notify w"), (0, 0, 1, 1))
        self.assert_deadlock(False, build("lock m; wait w; stop", "lock m; notify w; unlock m"), (0, 0, 1, 1, 1))

    def test_queues(self):
        self.assert_deadlock(True, build("take a q"), ())
        self.assert_deadlock(True, build("send q 1; send q 2; send q 3"), (0, 0))
        self.assert_deadlock(False, build("send q 1; send q 2; send q 99 + 1"), (0, 0))

    def test_a_state_that_is_not_final(self):
        program = build("lock m; go 1", "lock m; stop")
        self.assert_deadlock(False, program, (0,))
        self.assert_deadlock(False, program, (0, 0, 0))


class ArgumentsTest(unittest.TestCase):
    def test_no_function_changes_its_arguments(self):
        text = "lock m; wait w; take a q; add x a; unlock m; check 0"
        program = build(text, "send q 1; lock m; notify all w; unlock m; stop")
        told = repr(program)
        state = first_state(program)
        while enabled(program, state) != ():
            before = repr(state)
            for thread in enabled(program, state):
                make_step(program, state, thread)
            blocked(program, state)
            is_deadlock(program, state)
            self.assertEqual(repr(state), before)
            state = make_step(program, state, enabled(program, state)[0])[0]
        self.assertEqual(repr(program), told)

    def test_a_step_can_be_made_again(self):
        program = build("add x 1; stop")
        state = first_state(program)
        self.assertEqual(make_step(program, state, 0), make_step(program, state, 0))

    def test_shapes_of_states_and_steps(self):
        program = build("lock m; wait w", "send q 1; notify w")
        state, steps = play(program, (0, 1, 0, 1))
        self.assertEqual(len(state), 5)
        for part in state + tuple(state[2]) + tuple(state[3]) + tuple(state[4]):
            self.assertIs(type(part), tuple)
        for step in steps:
            self.assertIs(type(step), tuple)
            self.assertEqual(len(step), 4)
            self.assertIs(type(step[2]), tuple)


if __name__ == "__main__":
    unittest.main()
