"""[p6]: the normal text of a program, and the line of an instruction."""

import unittest

from everyturn.programs import read_program
from everyturn.writing import write_instruction, write_program

A, B = ("reg", "a"), ("reg", "b")
SUM = ("op", "+", A, ("num", 1))

LINES = [
    (("let", "a", SUM), "let a = a + 1"),
    (("let", "d", ("op", "=", A, B)), "let d = a = b"),
    (("get", "a", "x"), "get a x"),
    (("put", "x", SUM), "put x a + 1"),
    (("put", "x", ("neg", ("num", 3))), "put x -3"),
    (("add", "x", ("not", A)), "add x not a"),
    (("lock", "m"), "lock m"),
    (("unlock", "m"), "unlock m"),
    (("wait", "w"), "wait w"),
    (("notify", "w"), "notify w"),
    (("notifyall", "w"), "notify all w"),
    (("send", "q", ("op", "*", SUM, B)), "send q (a + 1) * b"),
    (("take", "c", "q"), "take c q"),
    (("check", ("op", "<", A, ("num", 2))), "check a < 2"),
    (("go", 0, None), "go 0"),
    (("go", 12, None), "go 12"),
    (("go", 0, ("num", 0)), "go 0 if 0"),
    (("go", 3, ("op", "or", A, B)), "go 3 if a or b"),
    (("begin",), "begin"),
    (("end",), "end"),
    (("stop",), "stop"),
]


class WriteInstructionTest(unittest.TestCase):
    def test_each_form(self):
        for instruction, line in LINES:
            self.assertEqual(write_instruction(instruction), line)

    def test_each_line_is_read_as_the_same_instruction(self):
        things = "var x = 0\nlock m\ncond w of m\nqueue q 1\n"
        for instruction, line in LINES:
            ahead = "begin" if instruction == ("end",) else "stop"
            behind = "end" if instruction == ("begin",) else "stop"
            text = "\n".join([ahead, line, behind] + ["stop"] * 9)
            self.assertEqual(read_program(things + "thread\n" + text)[1][0][1], instruction)


class WriteProgramTest(unittest.TestCase):
    def assert_normal(self, text, normal):
        program = read_program(text)
        self.assertEqual(write_program(program), normal)
        self.assertEqual(read_program(normal), program)

    def test_shared_things(self):
        self.assert_normal("var x=5\nvar y = - 3\nvar z = -0\nlock  m\ncond w  of m\nqueue q 3\nthread\nstop",
                           "var x = 5\nvar y = -3\nvar z = 0\nlock m\ncond w of m\nqueue q 3\nthread\nstop\n")

    def test_the_edges_of_first_values(self):
        self.assert_normal("var x = 99\nvar y = -99\nthread\nstop", "var x = 99\nvar y = -99\nthread\nstop\n")

    def test_no_shared_things(self):
        self.assert_normal("thread\nstop", "thread\nstop\n")

    def test_blank_lines_and_spaces_go(self):
        self.assert_normal("\n  var   x = 1\n\n   \n thread \n\n  get  a   x \n\n\n thread\nput x(a+1)*-2\n\n",
                           "var x = 1\nthread\nget a x\nthread\nput x (a + 1) * -2\n")

    def test_expressions_lose_brackets_that_they_do_not_need(self):
        self.assert_normal("thread\nlet a = ((a) + (b * c)) - (d)\ngo 0 if (not (a))",
                           "thread\nlet a = a + b * c - d\ngo 0 if not a\n")

    def test_the_order_of_things_and_threads_stays(self):
        text = "queue q 1\nvar y = 1\nlock m\nvar x = 2\nthread\nput x 1\nthread\nput y 1\nthread\nlock m\n"
        self.assert_normal(text, text)

    def test_each_instruction(self):
        text = ("var x = 0\nlock m\ncond w of m\nqueue q 1\nthread\nlet a = 1\nget b x\nput x 2\nadd x 3\nlock m\n"
                "unlock m\nwait w\nnotify w\nnotify all w\nsend q 4\ntake c q\ncheck 5\nthread\ngo 6\ngo 2 if a\n"
                "begin\nstop\nend\nstop\n")
        self.assert_normal(text, text)

    def test_a_largest_program(self):
        text = "".join(f"var {name} = -99\n" for name in "uvwxyz")
        text += ("thread\n" + "put u 1\n" * 11 + "go 12 if a + b + c + d\n") * 4
        self.assert_normal(text, text)

    def test_what_is_normal_stays(self):
        text = "var x = 0\nthread\nget a x\nput x a + 1\nthread\nadd x 1\n"
        self.assertEqual(write_program(read_program(text)), text)
        self.assertEqual(write_program(read_program(write_program(read_program(text)))), text)


if __name__ == "__main__":
    unittest.main()
