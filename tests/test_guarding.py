"""[r1], [r2], [r4]: spans that can be guarded, guarded programs, guards inside others and their cost."""

import random
import unittest
from itertools import product

from everyturn.errors import NoSuchPlace, TurnError
from everyturn.exploring import executions
from everyturn.guarding import cost, guarded, inside, spans
from everyturn.programs import read_program
from everyturn.schedules import run
from everyturn.writing import write_program
from helper import BLOCK_PROGRAMS, GUARDED_PROGRAMS, PROGRAMS, build, spans_by_trying

ADDS = build("get a x; put x a + 1", "add x 1", things="var x = 0\n")
FOUR = "var x = 2\nvar y = -7\nlock m\nqueue q 2\n"


class SpansTest(unittest.TestCase):
    def test_all_spans_in_the_order_of_tuples(self):
        program = build("get a x; put x a; add x 1", "stop")
        self.assertEqual(spans(program, 0, "x"), [(0, 0), (0, 1), (0, 2), (1, 1), (1, 2), (2, 2)])
        self.assertEqual(spans(program, 1, "x"), [])

    def test_other_instructions_within(self):
        program = build("let a = 1; get a x; let a = 2; get b y; check a; put y 1; add x 1; let a = 3")
        self.assertEqual(spans(program, 0, "x"), [(1, 1), (1, 6), (6, 6)])
        self.assertEqual(spans(program, 0, "y"), [(3, 3), (3, 5), (5, 5)])

    def test_instructions_that_cannot_be_guarded(self):
        for line in ("lock m", "unlock m", "send q 1", "take a q", "go 0", "stop", "begin; end", "wait w", "notify w",
                     "notify all w", "go 0 if a"):
            things = "var x = 2\nlock m\ncond w of m\nqueue q 2\n"
            program = build("put x 1; " + line + "; put x 2", things=things)
            last = len(program[1][0]) - 1
            self.assertEqual(spans(program, 0, "x"), [(0, 0), (last, last)], line)

    def test_a_go_into_a_span(self):
        program = build("put x 1; put x 2; put x 3; go 1", things=FOUR)
        self.assertEqual(spans(program, 0, "x"), [(0, 0), (1, 1), (1, 2), (2, 2)])
        program = build("go 3 if a; put x 1; put x 2; put x 3", things=FOUR)
        self.assertEqual(spans(program, 0, "x"), [(1, 1), (1, 2), (2, 2), (3, 3)])

    def test_a_go_to_the_first_instruction_and_behind_the_last_one(self):
        program = build("put x 1; put x 2; go 0", things=FOUR)
        self.assertEqual(spans(program, 0, "x"), [(0, 0), (0, 1), (1, 1)])
        program = build("go 3; put x 1; put x 2; let a = 1", things=FOUR)
        self.assertEqual(spans(program, 0, "x"), [(1, 1), (1, 2), (2, 2)])
        program = build("go 3; put x 1; put x 2", things=FOUR)
        self.assertEqual(spans(program, 0, "x"), [(1, 1), (1, 2), (2, 2)])

    def test_a_go_of_another_thread(self):
        program = build("put x 1; put x 2", "go 1; stop", things=FOUR)
        self.assertEqual(spans(program, 0, "x"), [(0, 0), (0, 1), (1, 1)])

    def test_a_name_that_no_variable_has(self):
        program = build("put x 1; lock m; send q 1; let a = 1")
        for name in ("z", "m", "q", "w", "a", ""):
            self.assertEqual(spans(program, 0, name), [])

    def test_each_program(self):
        for program in PROGRAMS + BLOCK_PROGRAMS + GUARDED_PROGRAMS:
            for thread in range(len(program[1])):
                for name in ("x", "y", "m"):
                    self.assertEqual(spans(program, thread, name), spans_by_trying(program, thread, name))

    def test_the_list_is_new(self):
        spans(ADDS, 0, "x").clear()
        self.assertEqual(spans(ADDS, 0, "x"), [(0, 0), (0, 1), (1, 1)])


class GuardedTest(unittest.TestCase):
    def assert_guarded(self, program, guards, text):
        self.assertEqual(guarded(program, guards, "g"), read_program(text))

    def test_a_span_in_each_thread(self):
        self.assert_guarded(ADDS, ((0, 1), (0, 0)), "var x = 0\nlock g\n"
                            "thread\nlock g\nget a x\nput x a + 1\nunlock g\nthread\nlock g\nadd x 1\nunlock g\n")

    def test_a_span_of_one_instruction(self):
        self.assert_guarded(ADDS, ((1, 1), None), "var x = 0\nlock g\n"
                            "thread\nget a x\nlock g\nput x a + 1\nunlock g\nthread\nadd x 1\n")
        self.assert_guarded(ADDS, ((0, 0), None), "var x = 0\nlock g\n"
                            "thread\nlock g\nget a x\nunlock g\nput x a + 1\nthread\nadd x 1\n")

    def test_guards_that_are_all_none(self):
        self.assert_guarded(ADDS, (None, None), "var x = 0\nlock g\n"
                            "thread\nget a x\nput x a + 1\nthread\nadd x 1\n")

    def test_a_span_that_is_for_no_variable(self):
        program = build("let a = 1; check a; let b = 1", things="lock m\n")
        self.assert_guarded(program, ((1, 2),), "lock m\nlock g\n"
                            "thread\nlet a = 1\nlock g\ncheck a\nlet b = 1\nunlock g\n")

    def test_the_lock_stands_behind_the_other_things(self):
        program = build("put x 1", things=FOUR)
        self.assertEqual(guarded(program, (None,), "n")[0], program[0] + (("lock", "n"),))

    def test_goes_around_a_span(self):
        program = build("go 1; go 2; put x 1; put x 2; go 0; go 4; go 6 if a; go 7", things="var x = 0\n")
        self.assert_guarded(program, ((2, 3),), "var x = 0\nlock g\nthread\n"
                            "go 1\ngo 2\nlock g\nput x 1\nput x 2\nunlock g\ngo 0\ngo 6\ngo 8 if a\ngo 9\n")

    def test_a_go_to_the_first_instruction_of_a_span(self):
        program = build("put x 1; put x 2; go 0 if a", things="var x = 0\n")
        self.assert_guarded(program, ((0, 1),), "var x = 0\nlock g\nthread\n"
                            "lock g\nput x 1\nput x 2\nunlock g\ngo 0 if a\n")
        program = build("go 1; put x 1", things="var x = 0\n")
        self.assert_guarded(program, ((1, 1),), "var x = 0\nlock g\nthread\ngo 1\nlock g\nput x 1\nunlock g\n")

    def test_a_go_to_the_instruction_behind_a_span(self):
        program = build("go 2 if a; put x 1; put x 2", things="var x = 0\n")
        self.assert_guarded(program, ((1, 1),), "var x = 0\nlock g\nthread\n"
                            "go 4 if a\nlock g\nput x 1\nunlock g\nput x 2\n")

    def test_a_go_to_the_end(self):
        program = build("go 3; put x 1; put x 2", things="var x = 0\n")
        self.assert_guarded(program, ((1, 2),), "var x = 0\nlock g\nthread\n"
                            "go 5\nlock g\nput x 1\nput x 2\nunlock g\n")
        self.assert_guarded(program, ((1, 1),), "var x = 0\nlock g\nthread\n"
                            "go 5\nlock g\nput x 1\nunlock g\nput x 2\n")

    def test_goes_of_a_thread_without_a_span(self):
        program = build("go 2; put x 1; go 3", "put x 1", things="var x = 0\n")
        self.assert_guarded(program, (None, (0, 0)), "var x = 0\nlock g\nthread\n"
                            "go 2\nput x 1\ngo 3\nthread\nlock g\nput x 1\nunlock g\n")

    def test_the_program_stays(self):
        text = write_program(ADDS)
        guarded(ADDS, ((0, 1), (0, 0)), "g")
        self.assertEqual(write_program(ADDS), text)

    def test_executions_are_schedules_of_the_program(self):
        found = 0
        for number, program in enumerate(GUARDED_PROGRAMS):
            chance = random.Random(number)
            guards = tuple(chance.choice([None] + all_spans(program, thread)) for thread in range(len(program[1])))
            for schedule, steps, state in executions(guarded(program, guards, "g"), 9, 3000)[:40]:
                inner = [step for step in steps if ("g", True) not in step[2]]
                last, own = run(program, [step[0] for step in inner])
                self.assertEqual([(step[0], step[2], step[3]) for step in own],
                                 [(step[0], step[2], step[3]) for step in inner])
                self.assertEqual(last[:4], (state[0], state[1][:-1], state[2], state[3]))
                self.assertEqual([entry[1] for entry in last[4]], [entry[1] for entry in state[4]])
                found += len(steps) - len(inner)
        self.assertGreater(found, 500)

    def test_each_program_can_be_read_again(self):
        for program in GUARDED_PROGRAMS + BLOCK_PROGRAMS:
            for guards in product(*[[None] + all_spans(program, thread) for thread in range(len(program[1]))]):
                if max(map(len, program[1])) < 11:
                    changed = guarded(program, guards, "g")
                    self.assertEqual(read_program(write_program(changed)), changed)
                    self.assertEqual(without_lock(changed, guards), program)


def all_spans(program, thread):
    """All spans of a thread that can be guarded, whatever they are for."""
    return [span for span in [(first, last) for first in range(12) for last in range(12)]
            if span in spans_by_trying(program, thread, None)]


def without_lock(changed, guards):
    """The program that was guarded, made again from the guarded one by leaving out the lock."""
    threads = []
    for instructions, span in zip(changed[1], guards):
        left = [at for at, instruction in enumerate(instructions) if instruction[1:] != ("g",)]
        rows = [instructions[at] for at in left]
        assert len(instructions) - len(rows) == (0 if span is None else 2)
        if span is not None:
            assert instructions[span[0]] == ("lock", "g") and instructions[span[1] + 2] == ("unlock", "g")
        # A place leads to the first instruction there that is not the lock's.
        threads.append(tuple((row[0], len([at for at in left if at < row[1]]), row[2]) if row[0] == "go" else row
                             for row in rows))
    return changed[0][:-1], tuple(threads)


class RefusedTest(unittest.TestCase):
    def assert_word(self, word, program, guards, name="g"):
        with self.assertRaises(NoSuchPlace) as caught:
            guarded(program, guards, name)
        self.assertEqual(caught.exception.word, word)
        self.assertIsInstance(caught.exception, TurnError)

    def test_a_string_that_is_no_name(self):
        for name in ("", "a", "d", "go", "var", "stop", "X", "1x", "x y", "x-", "ninechars", " g", "g "):
            self.assert_word("name", ADDS, (None, None), name)
        guarded(ADDS, (None, None), "eightchr")

    def test_a_name_that_is_taken(self):
        program = build("put x 1", things=FOUR)
        for name in ("x", "y", "m", "q"):
            self.assert_word("name", program, (None,), name)

    def test_six_shared_things(self):
        six = build("put x 1")
        self.assertEqual(len(six[0]), 6)
        self.assert_word("shared", six, (None,))
        self.assert_word("shared", six, ((0, 0),))
        five = build("put x 1", things=FOUR + "lock n\n")
        self.assertEqual(len(guarded(five, ((0, 0),), "g")[0]), 6)

    def test_a_tuple_of_guards_of_another_length(self):
        for guards in ((), (None,), ((0, 1),), (None, None, None), ((0, 1), (0, 0), None)):
            self.assert_word("guards", ADDS, guards)

    def test_an_entry_that_is_no_span(self):
        for span in ((1, 0), (-1, 0), (0, 2), (2, 2), (0, 99), (-2, -1), (2, 1)):
            self.assert_word("guards", ADDS, (span, None))
        for span in ((0, 1), (1, 1), (-1, 0), (-1, -1)):
            self.assert_word("guards", ADDS, (None, span))
        for span in ((), (0,), (0, 0, 0), 0, [0, 0], "xx"):
            self.assert_word("guards", ADDS, (span, None))

    def test_a_span_that_cannot_be_guarded(self):
        program = build("put x 1; lock m; put x 2; put x 3; go 3", things=FOUR)
        for span in ((0, 1), (1, 1), (0, 2), (1, 2), (2, 3), (3, 4), (4, 4)):
            self.assert_word("guards", program, (span,))
        for span in ((0, 0), (2, 2), (3, 3)):
            self.assertEqual(len(guarded(program, (span,), "g")[1][0]), 7)

    def test_a_thread_with_too_many_instructions(self):
        for length, other in ((10, 11), (10, 12)):
            program = build("; ".join(["put x 1"] * length), "; ".join(["put x 1"] * other), things=FOUR)
            self.assertEqual(len(guarded(program, ((0, 0), None), "g")[1][0]), 12)
            self.assertEqual(len(guarded(program, (None, None), "g")[1][1]), other)
            self.assert_word("many", program, (None, (0, 0)))
            self.assert_word("many", program, ((0, 0), (0, 0)))

    def test_the_order_of_words(self):
        long = "; ".join(["put x 1"] * 11)
        self.assert_word("name", build(long), (), "x")
        self.assert_word("name", build(long), ((0, 99),), "")
        self.assert_word("shared", build(long), (), "g")
        self.assert_word("shared", build(long), ((0, 99),), "g")
        self.assert_word("shared", build(long), ((0, 0),), "g")
        program = build(long, "lock m", things=FOUR)
        self.assert_word("guards", program, ((0, 0),))
        self.assert_word("guards", program, ((0, 0), (0, 0)))
        self.assert_word("many", program, ((0, 0), None))


class InsideTest(unittest.TestCase):
    def test_none(self):
        self.assertIs(inside((None,), (None,)), True)
        self.assertIs(inside((None, None), ((0, 1), None)), True)
        self.assertIs(inside(((0, 1),), (None,)), False)
        self.assertIs(inside((None, (0, 0)), ((0, 0), None)), False)

    def test_spans(self):
        for span, wide, expected in (((1, 2), (1, 2), True), ((1, 2), (0, 3), True), ((1, 2), (1, 3), True),
                                     ((1, 2), (0, 2), True), ((1, 2), (2, 2), False), ((1, 2), (1, 1), False),
                                     ((0, 3), (1, 2), False), ((0, 2), (1, 2), False), ((1, 3), (1, 2), False),
                                     ((0, 0), (1, 2), False), ((3, 3), (1, 2), False)):
            self.assertIs(inside((span,), (wide,)), expected, (span, wide))

    def test_each_thread(self):
        self.assertIs(inside(((0, 0), (1, 1)), ((0, 1), (0, 1))), True)
        self.assertIs(inside(((0, 0), (1, 1)), ((0, 1), (0, 0))), False)
        self.assertIs(inside(((0, 2), (1, 1)), ((0, 1), (0, 1))), False)

    def test_cost(self):
        self.assertEqual(cost((None,)), 0)
        self.assertEqual(cost((None, None, None, None)), 0)
        self.assertEqual(cost(((3, 3),)), 1)
        self.assertEqual(cost(((0, 1), None, (2, 5))), 6)
        self.assertEqual(cost(((0, 11),) * 4), 48)


if __name__ == "__main__":
    unittest.main()
