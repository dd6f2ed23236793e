"""[j1], [j3]: the judge of papers of safety."""

import random
import unittest

from everyturn.judge import judge
from everyturn.machine import blocked, enabled, first_state, make_step
from everyturn.papers import paper_of
from everyturn.schedules import run
from helper import GUARDED_PROGRAMS, PROGRAMS, ZERO, build, possible

LOCKED = build("lock m; add x 1; unlock m", "lock m; add x 2; unlock m")
PAPER = paper_of(LOCKED, 100)
ONE = "lock m\ncond w of m\nqueue q 2\n"


def state_of(*threads, owner=None, items=(), waiting=()):
    """A state of a program with the things of ONE, its threads given as tuples (pc, mode, word)."""
    return (), (owner,), (items,), (waiting,), tuple((pc, ZERO, mode, word) for pc, mode, word in threads)


def judge_by_words(program, paper):
    """[j3]: the first of all faults of a paper."""
    if first_state(program) not in paper:
        return ("first",)
    again = [at for at, state in enumerate(paper) if state in paper[:at]]
    if again:
        return ("twice", again[0])
    faults = []
    for at, state in enumerate(paper):
        for thread in enabled(program, state):
            behind, step = make_step(program, state, thread)
            if step[3] is not None:
                faults.append((at, thread, ("failure", at, thread)))
            elif paper.count(behind) == 0:
                faults.append((at, thread, ("step", at, thread)))
        if not enabled(program, state) and blocked(program, state):
            faults.append((at, 0, ("deadlock", at)))
    return min(faults)[2] if faults else None


class RightPaperTest(unittest.TestCase):
    def test_the_paper_that_the_program_makes(self):
        self.assertIsNone(judge(LOCKED, PAPER))
        for text in ("stop", "go 0", "let a = 1; let a = 0; go 0"):
            self.assertIsNone(judge(build(text), paper_of(build(text), 100)))

    def test_in_any_order(self):
        self.assertIsNone(judge(LOCKED, PAPER[::-1]))
        shuffled = list(PAPER)
        random.Random(1).shuffle(shuffled)
        self.assertIsNone(judge(LOCKED, shuffled))

    def test_states_that_cannot_be_reached(self):
        program = build("stop", things=ONE)
        paper = paper_of(program, 10)
        extra = state_of((1, "over", None), owner=0, items=(5, -99), waiting=())
        self.assertIsNone(judge(program, paper + [extra]))
        self.assertIsNone(judge(program, [extra] + paper))

    def test_a_state_that_has_failed(self):
        # A failure that was made before is no fault; the step that makes it is.
        program = build("check 0; stop", "stop", things=ONE)
        paper = paper_of(build("stop; stop", "stop", things=ONE), 10)
        extra = [state_of((0, "over", "check"), (0, "run", None)), state_of((0, "over", "check"), (1, "over", None))]
        self.assertEqual(judge(program, paper + extra), ("failure", 0, 0))
        self.assertIsNone(judge(build("stop; stop", "stop", things=ONE), paper + extra))

    def test_the_arguments_stay(self):
        paper = list(PAPER)
        judge(LOCKED, paper)
        self.assertEqual(paper, PAPER)


class FirstTest(unittest.TestCase):
    def test_an_empty_paper(self):
        self.assertEqual(judge(LOCKED, []), ("first",))

    def test_without_the_first_state(self):
        self.assertEqual(judge(LOCKED, PAPER[1:]), ("first",))
        other = build("stop", "stop", things="var x = 3\nvar y = -7\nlock m\nlock n\ncond w of m\nqueue q 2\n")
        self.assertEqual(judge(LOCKED, paper_of(other, 10)), ("first",))

    def test_ahead_of_all_other_faults(self):
        self.assertEqual(judge(LOCKED, PAPER[2:] + PAPER[2:]), ("first",))
        program = build("check 0")
        self.assertEqual(judge(program, [run(program, (0,))[0]]), ("first",))


class TwiceTest(unittest.TestCase):
    def test_a_state_twice(self):
        self.assertEqual(judge(LOCKED, PAPER + PAPER[:1]), ("twice", len(PAPER)))
        self.assertEqual(judge(LOCKED, PAPER[:1] + PAPER), ("twice", 1))
        self.assertEqual(judge(LOCKED, PAPER[:3] + PAPER), ("twice", 3))

    def test_the_least_index(self):
        self.assertEqual(judge(LOCKED, PAPER[:2] + PAPER[1:2] + PAPER[:1]), ("twice", 2))
        self.assertEqual(judge(LOCKED, PAPER[:2] + PAPER[:1] + PAPER[1:2]), ("twice", 2))
        self.assertEqual(judge(LOCKED, PAPER[:1] * 3), ("twice", 1))

    def test_ahead_of_steps_failures_and_deadlocks(self):
        program = build("check 0", "let a = 1")
        first = first_state(program)
        self.assertEqual(judge(program, [first]), ("failure", 0, 0))
        self.assertEqual(judge(program, [first, first]), ("twice", 1))
        program = build("take a q")
        self.assertEqual(judge(program, [first_state(program)] * 2), ("twice", 1))


class StepTest(unittest.TestCase):
    def test_a_state_that_is_missing(self):
        for gone in range(1, len(PAPER)):
            left = PAPER[:gone] + PAPER[gone + 1:]
            told = judge(LOCKED, left)
            self.assertEqual(told, judge_by_words(LOCKED, left))
            self.assertEqual(told[0], "step")

    def test_the_first_state_and_thread(self):
        program = build("let a = 1", "let a = 1")
        paper = paper_of(program, 10)
        self.assertEqual(judge(program, paper[:1]), ("step", 0, 0))
        self.assertEqual(judge(program, paper[:2]), ("step", 0, 1))
        self.assertEqual(judge(program, paper[:3]), ("step", 1, 1))
        self.assertEqual(judge(program, [paper[2], paper[0], paper[1]]), ("step", 0, 0))
        self.assertEqual(judge(program, [paper[0], paper[1], paper[3]]), ("step", 0, 1))

    def test_a_state_that_cannot_be_reached(self):
        extra = ((50, 50),) + PAPER[0][1:]
        self.assertEqual(judge(LOCKED, PAPER + [extra]), ("step", len(PAPER), 0))
        self.assertEqual(judge(LOCKED, [extra] + PAPER), ("step", 0, 0))


class FailureTest(unittest.TestCase):
    def test_a_failure(self):
        program = build("let a = 1; check 0", things=ONE)
        paper = [run(program, (0,) * many)[0] for many in range(3)]
        self.assertEqual(judge(program, paper), ("failure", 1, 0))
        self.assertEqual(judge(program, [paper[1], paper[0], paper[2]]), ("failure", 0, 0))

    def test_a_step_out_of_the_paper_that_fails_as_well(self):
        program = build("let a = 1; check 0", things=ONE)
        paper = [run(program, (0,) * many)[0] for many in range(2)]
        self.assertEqual(judge(program, paper), ("failure", 1, 0))
        self.assertEqual(judge(build("check 0"), [first_state(build("check 0"))]), ("failure", 0, 0))

    def test_a_step_of_a_lower_thread_comes_first(self):
        program = build("let a = 1", "check 0")
        self.assertEqual(judge(program, [first_state(program)]), ("step", 0, 0))
        self.assertEqual(judge(program, [first_state(program), run(program, (0,))[0]]), ("failure", 0, 1))
        program = build("check 0", "let a = 1")
        self.assertEqual(judge(program, [first_state(program)]), ("failure", 0, 0))

    def test_a_fault_of_an_earlier_state_comes_first(self):
        program = build("let a = 1; check 0", "let a = 1")
        states = [run(program, schedule)[0] for schedule in ((), (0,), (1,))]
        self.assertEqual(judge(program, states), ("failure", 1, 0))
        self.assertEqual(judge(program, [states[0], states[2], states[1]]), ("step", 1, 0))
        self.assertEqual(judge(program, [states[1], states[0], states[2]]), ("failure", 0, 0))

    def test_each_word(self):
        for line in ("let a = 99 + 1", "check 0", "unlock m", "wait w", "add x 98", "send q 99 + 1"):
            program = build(line)
            self.assertEqual(judge(program, [first_state(program)]), ("failure", 0, 0))


class DeadlockTest(unittest.TestCase):
    def test_a_deadlock(self):
        program = build("take a q")
        self.assertEqual(judge(program, [first_state(program)]), ("deadlock", 0))
        program = build("lock m; lock n", "lock n; lock m")
        paper = sorted({state for _, _, state in possible(program, 10)}, key=repr)
        self.assertEqual(judge(program, paper), judge_by_words(program, paper))
        self.assertEqual(judge(program, paper)[0], "deadlock")

    def test_a_blocked_thread_beside_an_enabled_one_is_none(self):
        program = build("lock m; unlock m", "lock m; unlock m")
        paper = paper_of(program, 100)
        self.assertEqual(blocked(program, paper[1]), ((1, "m"),))
        self.assertIsNone(judge(program, paper))

    def test_a_state_that_cannot_be_reached(self):
        program = build("lock m; unlock m", things=ONE)
        paper = paper_of(program, 100)
        self.assertEqual(judge(program, paper + [state_of((0, "run", None), owner=0)]), ("deadlock", len(paper)))


class StrangeStatesTest(unittest.TestCase):
    """Papers may have any tuples of the shape of states, also such to which nothing leads."""

    def test_a_thread_that_waits_and_is_not_on_the_list(self):
        program = build("stop; wait w", things=ONE)
        paper = paper_of(program, 10)
        self.assertEqual(judge(program, paper + [state_of((1, "wait", None))]), ("deadlock", 2))

    def test_a_woken_thread_takes_its_lock(self):
        program = build("stop; wait w", things=ONE)
        paper = paper_of(program, 10)
        woken, behind = state_of((1, "woken", None)), state_of((2, "over", None), owner=0)
        self.assertEqual(judge(program, paper + [woken]), ("step", 2, 0))
        self.assertIsNone(judge(program, paper + [woken, behind]))
        self.assertEqual(judge(program, paper + [state_of((1, "woken", None), owner=0)]), ("deadlock", 2))

    def test_a_thread_on_the_list_that_does_not_wait(self):
        program = build("stop; notify w", "stop; wait w", things=ONE)
        paper = paper_of(program, 10)
        many = len(paper)
        # Thread 1 is over, but on the list of those that wait: the notice wakes it.
        strange = state_of((1, "run", None), (1, "over", None), waiting=(1,))
        woken = state_of((2, "over", None), (1, "woken", None))
        last = state_of((2, "over", None), (2, "over", None), owner=1)
        self.assertEqual(judge(program, paper + [strange]), ("step", many, 0))
        self.assertIsNone(judge(program, paper + [strange, woken, last]))

    def test_a_queue_with_more_items_than_its_size(self):
        program = build("stop; send q 1", things=ONE)
        paper = paper_of(program, 10)
        self.assertEqual(judge(program, paper + [state_of((1, "run", None), items=(1, 2, 3))]), ("deadlock", 2))
        self.assertEqual(judge(program, paper + [state_of((1, "run", None), items=(1, 2))]), ("deadlock", 2))
        self.assertEqual(judge(program, paper + [state_of((1, "run", None), items=(1,))]), ("step", 2, 0))
        behind = state_of((2, "over", None), items=(1, 1))
        self.assertIsNone(judge(program, paper + [state_of((1, "run", None), items=(1,)), behind]))

    def test_a_word_of_a_thread_that_goes_on_stays(self):
        program = build("stop; let b = 0; let b = 0", things=ONE)
        paper = paper_of(program, 10)
        rows = [state_of((1, "run", "check")), state_of((2, "run", "check")), state_of((3, "over", "check"))]
        self.assertIsNone(judge(program, paper + rows))

    def test_a_thread_that_notifies_itself(self):
        program = build("stop; notify w; wait w", things=ONE)
        paper = paper_of(program, 10)
        strange = state_of((1, "run", None), waiting=(0,))
        rows = [state_of((2, "woken", None)), state_of((3, "over", None), owner=0)]
        self.assertIsNone(judge(program, paper + [strange] + rows))

    def test_a_thread_that_is_over_in_the_middle(self):
        program = build("stop; check 0; check 0", "stop", things=ONE)
        paper = paper_of(program, 10)
        for pc in (0, 1, 2, 3):
            for word in (None, "range", "check", "owner"):
                extra = state_of((pc, "over", word), (1, "over", None))
                self.assertIsNone(judge(program, paper + [extra] if extra not in paper else paper))

    def test_a_lock_that_another_thread_owns(self):
        program = build("stop; unlock m; stop", "stop", things=ONE)
        paper = paper_of(program, 10)
        strange = state_of((1, "run", None), (1, "over", None), owner=1)
        self.assertEqual(judge(program, paper + [strange]), ("failure", len(paper), 0))


class EachPaperTest(unittest.TestCase):
    def test_papers_that_the_program_makes(self):
        found = 0
        for program in PROGRAMS + GUARDED_PROGRAMS:
            paper = paper_of(program, 3000)
            if paper is not None:
                self.assertIsNone(judge(program, paper))
                found += 1
        self.assertGreater(found, 50)

    def test_changed_papers(self):
        kinds = []
        for number, program in enumerate((PROGRAMS + GUARDED_PROGRAMS)[::2]):
            states = list(dict.fromkeys(state for _, _, state in possible(program, 5)))
            for turn in range(8):
                paper = changed_at_random(random.Random(100 * number + turn), states)
                told = judge(program, paper)
                self.assertEqual(told, judge_by_words(program, paper))
                kinds.append(told if told is None else told[0])
        for kind in ("first", "twice", "failure", "step", "deadlock"):
            self.assertGreater(kinds.count(kind), 15, kind)


def changed_at_random(chance, states):
    """Some states in some order, now and then one twice or one left out."""
    paper = list(states)
    for _ in range(chance.choice([0, 1, 1, 2])):
        if paper:
            paper.pop(chance.randrange(len(paper)))
    if chance.random() < 0.5:
        chance.shuffle(paper)
    if paper and chance.random() < 0.2:
        paper.insert(chance.randrange(len(paper) + 1), chance.choice(paper))
    return paper


if __name__ == "__main__":
    unittest.main()
