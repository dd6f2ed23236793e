"""[p1] to [p5], [c2], [c3], [c5]: programs that are read, and their first faults."""

import unittest

from everyturn.errors import NoSuchPlace, ProgramFault, TurnError
from everyturn.programs import kind_of, lock_of, names_of, read_program

A, B = ("reg", "a"), ("reg", "b")
THINGS = "var x = 5\nlock m\ncond w of m\nqueue q 2\n"
RESERVED = ("var lock cond of queue thread let get put add unlock wait notify all send take check go if begin end "
            "stop and or not").split()


def op(sign, left, right):
    return ("op", sign, left, right)


def fault(text):
    """The line and the word of the first fault of a text, None if it is a program."""
    try:
        read_program(text)
    except ProgramFault as found:
        return (found.line, found.word)
    return None


def shared_of(lines):
    return read_program(lines + "\nthread\nstop\n")[0]


def instruction_of(line):
    """The tuple of a line that stands in a thread behind some shared things."""
    threads = read_program(THINGS + "thread\n" + line + "\nstop\n")[1]
    return threads[0][0]


class ThingsTest(unittest.TestCase):
    def test_variables(self):
        self.assertEqual(shared_of("var x = 5"), (("var", "x", 5),))
        self.assertEqual(shared_of("var x = 0"), (("var", "x", 0),))
        self.assertEqual(shared_of("var x = 99"), (("var", "x", 99),))
        self.assertEqual(shared_of("var x=7"), (("var", "x", 7),))

    def test_a_first_value_with_a_minus(self):
        self.assertEqual(shared_of("var x = -3"), (("var", "x", -3),))
        self.assertEqual(shared_of("var x = -99"), (("var", "x", -99),))
        self.assertEqual(shared_of("var x = - 12"), (("var", "x", -12),))
        self.assertEqual(shared_of("var x =-1"), (("var", "x", -1),))
        self.assertEqual(shared_of("var x = -0"), (("var", "x", 0),))

    def test_locks(self):
        self.assertEqual(shared_of("lock m"), (("lock", "m"),))

    def test_conditions(self):
        self.assertEqual(shared_of("lock m\ncond w of m"), (("lock", "m"), ("cond", "w", "m")))
        self.assertEqual(shared_of("lock m\nlock n\ncond w of m\ncond v of n\ncond u of m")[2:],
                         (("cond", "w", "m"), ("cond", "v", "n"), ("cond", "u", "m")))

    def test_queues(self):
        for size in (1, 2, 3):
            self.assertEqual(shared_of(f"queue q {size}"), (("queue", "q", size),))

    def test_the_order_stays(self):
        self.assertEqual(shared_of("queue q 1\nvar y = 1\nlock m\nvar x = 2"),
                         (("queue", "q", 1), ("var", "y", 1), ("lock", "m"), ("var", "x", 2)))

    def test_no_shared_things(self):
        self.assertEqual(read_program("thread\nstop"), ((), ((("stop",),),)))

    def test_six_shared_things(self):
        names = ["u", "v", "w", "x", "y", "z"]
        text = "\n".join(f"var {name} = 0" for name in names)
        self.assertEqual(shared_of(text), tuple(("var", name, 0) for name in names))

    def test_names_of_eight_characters(self):
        self.assertEqual(shared_of("lock abcdefgh"), (("lock", "abcdefgh"),))


class InstructionsTest(unittest.TestCase):
    def test_each_form(self):
        for line, expected in (
                ("let a = 7", ("let", "a", ("num", 7))),
                ("let d = a + b", ("let", "d", op("+", A, B))),
                ("get b x", ("get", "b", "x")),
                ("put x a + 1", ("put", "x", op("+", A, ("num", 1)))),
                ("add x -1", ("add", "x", ("neg", ("num", 1)))),
                ("lock m", ("lock", "m")),
                ("unlock m", ("unlock", "m")),
                ("wait w", ("wait", "w")),
                ("notify w", ("notify", "w")),
                ("notify all w", ("notifyall", "w")),
                ("send q a * 2", ("send", "q", op("*", A, ("num", 2)))),
                ("take c q", ("take", "c", "q")),
                ("check a < b", ("check", op("<", A, B))),
                ("go 0", ("go", 0, None)),
                ("go 2", ("go", 2, None)),
                ("go 1 if a = b", ("go", 1, op("=", A, B))),
                ("go 2 if not a", ("go", 2, ("not", A))),
                ("stop", ("stop",))):
            self.assertEqual(instruction_of(line), expected, line)

    def test_begin_and_end(self):
        text = THINGS + "thread\nbegin\nget a x\nend\nbegin\nend\n"
        self.assertEqual(read_program(text)[1],
                         ((("begin",), ("get", "a", "x"), ("end",), ("begin",), ("end",)),))

    def test_a_go_of_a_block_or_into_one(self):
        for text in ("thread\nbegin\ngo 3\nend\nstop", "thread\ngo 2\nbegin\nstop\nend", "thread\nbegin\ngo 0\nend"):
            self.assertIsNone(fault(text), text)

    def test_a_let_with_a_claim(self):
        self.assertEqual(instruction_of("let a = b = 1"), ("let", "a", op("=", B, ("num", 1))))

    def test_several_spaces(self):
        self.assertEqual(instruction_of("   let   a=b   "), ("let", "a", B))
        self.assertEqual(instruction_of("go  2  if  (a)"), ("go", 2, A))
        self.assertEqual(instruction_of(" notify   all  w "), ("notifyall", "w"))
        self.assertEqual(read_program("  var  x  =  1 \n   thread   \n  stop  "), ((("var", "x", 1),), ((("stop",),),)))

    def test_no_spaces_where_none_are_needed(self):
        self.assertEqual(instruction_of("go 1if a"), ("go", 1, A))
        self.assertEqual(instruction_of("put x(a)"), ("put", "x", A))

    def test_blank_lines_and_lines_of_spaces(self):
        text = "\n  \nvar x = 1\n\n    \nthread\n\nget a x\n   \nstop\n\n\n"
        self.assertEqual(read_program(text), ((("var", "x", 1),), ((("get", "a", "x"), ("stop",)),)))

    def test_a_text_without_a_last_newline(self):
        self.assertEqual(read_program("thread\nstop"), read_program("thread\nstop\n"))

    def test_several_threads(self):
        text = "var x = 0\nthread\nget a x\nstop\nthread\nput x 1\nthread\ngo 0\n"
        self.assertEqual(read_program(text)[1], ((("get", "a", "x"), ("stop",)), (("put", "x", ("num", 1)),),
                                                 (("go", 0, None),)))

    def test_four_threads(self):
        self.assertEqual(read_program("thread\nstop\n" * 4)[1], ((("stop",),),) * 4)

    def test_twelve_instructions(self):
        self.assertEqual(read_program("thread\n" + "stop\n" * 12)[1], ((("stop",),) * 12,))
        self.assertEqual([len(thread) for thread in read_program(("thread\n" + "stop\n" * 12) * 4)[1]], [12] * 4)

    def test_a_go_to_the_end(self):
        self.assertEqual(read_program("thread\ngo 1")[1], ((("go", 1, None),),))
        self.assertEqual(read_program("thread\n" + "stop\n" * 11 + "go 12\n")[1][0][11], ("go", 12, None))

    def test_a_lock_is_a_thing_and_an_instruction(self):
        self.assertEqual(read_program("lock m\nthread\nlock m\nlock m\n"),
                         ((("lock", "m"),), ((("lock", "m"), ("lock", "m")),)))

    def test_the_example_of_the_document(self):
        self.assertEqual(read_program("var x = -3\nthread\nput x a + 1\n"),
                         ((("var", "x", -3),), ((("put", "x", op("+", A, ("num", 1))),),)))

    def test_the_kinds_of_what_is_returned(self):
        program = read_program(THINGS + "thread\nlet a = 1\n")
        self.assertIs(type(program), tuple)
        self.assertEqual([type(part) for part in program], [tuple, tuple])
        self.assertEqual([type(part) for part in program[1]], [tuple])


class TokensFaultTest(unittest.TestCase):
    def test_in_each_part_of_a_text(self):
        self.assertEqual(fault("var x = 100\nthread\nstop"), (0, "tokens"))
        self.assertEqual(fault("var x = 05\nthread\nstop"), (0, "tokens"))
        self.assertEqual(fault("var X = 5\nthread\nstop"), (0, "tokens"))
        self.assertEqual(fault("lock abcdefghi\nthread\nstop"), (0, "tokens"))
        self.assertEqual(fault("thread\nlet a = b > 1"), (1, "tokens"))
        self.assertEqual(fault("thread!\nstop"), (0, "tokens"))
        self.assertEqual(fault("thread\nstop\n\n#"), (3, "tokens"))
        self.assertEqual(fault("thread\ngo 100"), (1, "tokens"))
        self.assertEqual(fault("thread\nlet a = b % 2"), (1, "tokens"))

    def test_ahead_of_the_other_faults_of_a_line(self):
        self.assertEqual(fault("thread\nnonsense ?"), (1, "tokens"))
        self.assertEqual(fault("var a = 1 ?"), (0, "tokens"))
        self.assertEqual(fault("thread\nget a y ?"), (1, "tokens"))
        self.assertEqual(fault("thread\ngo 9 ?"), (1, "tokens"))
        self.assertEqual(fault("thread\nend ?"), (1, "tokens"))
        self.assertEqual(fault("thread\nstop\n" * 4 + "thread ?\n"), (8, "tokens"))


class FormFaultTest(unittest.TestCase):
    def assert_no_thing(self, *lines):
        for line in lines:
            self.assertEqual(fault(THINGS + line + "\nthread\nstop"), (4, "form"), line)

    def assert_no_instruction(self, *lines):
        for line in lines:
            self.assertEqual(fault(THINGS + "thread\nstop\n" + line), (6, "form"), line)

    def test_shared_things(self):
        self.assert_no_thing("var", "var y", "var y =", "var y 5", "var y = 5 5", "var y = z", "var = 5", "var 5 = y",
                             "var y = 1 + 1", "var y = (1)", "var y = +1", "y = 5", "var y < 5", "vars y = 5")
        self.assert_no_thing("lock", "lock m n", "lock 1", "lock =", "locks y")
        self.assert_no_thing("cond", "cond v", "cond v of", "cond v m", "cond of m", "cond v if m", "cond v of m m",
                             "cond 1 of m", "cond v of 1")
        self.assert_no_thing("queue", "queue p", "queue 2", "queue p 2 2", "queue p q", "queue p -1", "queue p = 2",
                             "queue 2 p", "queue p (2)")

    def test_a_first_value_has_at_most_one_minus(self):
        self.assert_no_thing("var y = --1", "var y = -", "var y = - - 1", "var y = -z", "var y = -1 -", "var y = 1-",
                             "var y = not 1")

    def test_lines_of_threads(self):
        self.assert_no_instruction("thread 1", "thread x", "threads", "thread thread", "thread stop")
        self.assert_no_thing("thread 1", "thread x", "threads", "thread thread")

    def test_instructions(self):
        self.assert_no_instruction("let", "let a", "let a =", "let a 1", "let = 1", "let 1 = a", "let a = 1 2", "a = 1")
        self.assert_no_instruction("get", "get a", "get x", "get a x x", "get a 1", "get 1 x", "get a = x")
        self.assert_no_instruction("put", "put x", "put 1", "put 1 1", "put x = 1", "put x 1 2")
        self.assert_no_instruction("add", "add x", "add 1", "add 1 1", "add x = 1", "add x + 1")
        self.assert_no_instruction("lock", "lock m m", "lock 1", "unlock", "unlock m m", "unlock 1")
        self.assert_no_instruction("wait", "wait w w", "wait 1", "wait all w", "notify", "notify w w", "notify 1",
                                   "notify all 1", "notify all w w", "notify w all", "notifya w")
        self.assert_no_instruction("send", "send q", "send 1", "send 1 1", "send q = 1", "send all q 1")
        self.assert_no_instruction("take", "take a", "take q", "take a q q", "take a 1", "take 1 q")
        self.assert_no_instruction("check", "check +", "check a b")
        self.assert_no_instruction("go", "go a", "go x", "go -1", "go 1 1", "go 1 if", "go if a", "go 1 of a",
                                   "go 1 if a b", "go a if a", "go (1)", "go 1 + 1", "go 1 a")
        self.assert_no_instruction("begin begin", "begin 1", "end 1", "end end", "stop 1", "stop stop", "stop if a")
        self.assert_no_instruction("nonsense", "x", "a", "1", "=", "jump 1", "if a", "all w", "not a")

    def test_a_register_must_be_one(self):
        self.assert_no_instruction("let x = 1", "let e = 1", "let thread = 1", "get x x", "get e x", "get ab x",
                                   "take q q", "take e q", "get all x")

    def test_an_expression_must_be_one_that_is_read(self):
        for bad in ("x", "a +", "(a", "a = b = c", "a b", "((((((a))))))", "a" + " + a" * 10, "()", "1 2", "lock"):
            self.assert_no_instruction("let a = " + bad, "put x " + bad, "add x " + bad, "send q " + bad,
                                       "check " + bad, "go 1 if " + bad)

    def test_an_expression_of_twenty_tokens_and_five_brackets(self):
        self.assertIsNone(fault(THINGS + "thread\nput x -a" + " + a" * 9))
        self.assertIsNone(fault(THINGS + "thread\ncheck (((((a)))))"))

    def test_words_in_the_places_of_names_are_right_here(self):
        for line in ("var thread = 1", "var a = 1", "var lock = 1", "lock lock", "lock a", "cond of of of",
                     "cond cond of lock", "queue queue 9", "queue d 0"):
            self.assertEqual(fault(line + "\nthread\nstop"), (0, "name"), line)
        for line in ("get a a", "put a 1", "add if 1", "lock lock", "unlock if", "wait all", "notify all",
                     "notify all all", "send let 1", "take a a", "take a take", "wait wait", "lock thread"):
            self.assertEqual(fault("thread\n" + line), (1, "name"), line)

    def test_numbers_in_the_other_places_are_right_here(self):
        self.assertEqual(fault("queue q 0\nthread\nstop"), (0, "number"))
        self.assertEqual(fault("queue q 99\nthread\nstop"), (0, "number"))
        self.assertEqual(fault("thread\ngo 99"), (1, "number"))

    def test_things_behind_the_first_thread(self):
        for line in ("var y = 1", "cond v of m", "queue p 1"):
            self.assertEqual(fault(THINGS + "thread\nstop\n" + line), (6, "form"), line)
            self.assertEqual(fault(THINGS + "thread\n" + line + "\nstop"), (5, "form"), line)
            self.assertEqual(fault(THINGS + "thread\nstop\nthread\n" + line), (7, "form"), line)

    def test_instructions_ahead_of_the_first_thread(self):
        self.assert_no_thing("let a = 1", "get a x", "put x 1", "add x 1", "unlock m", "wait w", "notify w",
                             "notify all w", "send q 1", "take a q", "check 1", "go 0", "go 0 if a", "begin", "end",
                             "stop")

    def test_a_lock_on_each_side(self):
        self.assertEqual(fault("lock m\nlock m\nthread\nstop"), (1, "name"))
        self.assertEqual(fault("lock m\nthread\nlock n"), (2, "name"))

    def test_ahead_of_the_later_faults_of_a_line(self):
        self.assertEqual(fault("var a = a\nthread\nstop"), (0, "form"))
        self.assertEqual(fault("thread\nget x y"), (1, "form"))
        self.assertEqual(fault("thread\ngo 9 if x"), (1, "form"))
        self.assertEqual(fault("thread\n" + "stop\n" * 12 + "stop 1"), (13, "form"))
        self.assertEqual(fault("thread\nend 1"), (1, "form"))


class NameFaultTest(unittest.TestCase):
    def test_names_that_are_declared(self):
        for word in RESERVED + ["a", "b", "c", "d"]:
            for line in (f"var {word} = 1", f"lock {word}", f"queue {word} 1"):
                self.assertEqual(fault(line + "\nthread\nstop"), (0, "name"), line)
            self.assertEqual(fault(f"lock m\ncond {word} of m\nthread\nstop"), (1, "name"), word)

    def test_no_two_shared_things_have_one_name(self):
        for line in ("var x = 1", "lock x", "cond x of m", "queue x 1"):
            self.assertEqual(fault("lock m\nvar x = 1\n" + line + "\nthread\nstop"), (2, "name"), line)
        for line in ("var m = 1", "lock m", "cond m of m", "queue m 1", "var w = 1", "lock w", "cond w of m",
                     "queue w 1", "var q = 1", "lock q", "cond q of m", "queue q 1"):
            self.assertEqual(fault(THINGS + line + "\nthread\nstop"), (4, "name"), line)

    def test_the_lock_of_a_condition_is_declared_above_it(self):
        self.assertEqual(fault("cond w of m\nlock m\nthread\nstop"), (0, "name"))
        self.assertEqual(fault("cond w of w\nthread\nstop"), (0, "name"))
        for name in ("x", "w", "q", "n"):
            self.assertEqual(fault(THINGS + f"cond v of {name}\nthread\nstop"), (4, "name"), name)
        self.assertIsNone(fault(THINGS + "cond v of m\nthread\nstop"))

    def test_the_kind_that_each_instruction_needs(self):
        forms = {"x": ("get a {}", "put {} 1", "add {} 1"), "m": ("lock {}", "unlock {}"),
                 "w": ("wait {}", "notify {}", "notify all {}"), "q": ("send {} 1", "take a {}")}
        for right, lines in forms.items():
            for line in lines:
                for name in ("x", "m", "w", "q", "unknown"):
                    expected = None if name == right else (5, "name")
                    self.assertEqual(fault(THINGS + "thread\n" + line.format(name)), expected, (line, name))

    def test_ahead_of_the_later_faults_of_a_line(self):
        self.assertEqual(fault("queue a 4\nthread\nstop"), (0, "name"))
        seven = "".join(f"var {name} = 0\n" for name in "uvwxyz")
        self.assertEqual(fault(seven + "var u = 0\nthread\nstop"), (6, "name"))
        self.assertEqual(fault(seven + "var a = 0\nthread\nstop"), (6, "name"))
        self.assertEqual(fault("thread\n" + "stop\n" * 12 + "get a x\n"), (13, "name"))


class NumberFaultTest(unittest.TestCase):
    def test_sizes(self):
        for size in range(100):
            expected = None if size in (1, 2, 3) else (0, "number")
            self.assertEqual(fault(f"queue q {size}\nthread\nstop"), expected, size)

    def test_places(self):
        for n in range(100):
            expected = None if n <= 3 else (2, "number")
            self.assertEqual(fault(f"thread\nstop\ngo {n}\nstop"), expected, n)
            self.assertEqual(fault(f"thread\nstop\ngo {n} if a\nstop"), expected, n)

    def test_blank_lines_do_not_count(self):
        self.assertIsNone(fault("thread\n\ngo 2\n   \nstop\n\n"))
        self.assertEqual(fault("thread\n\ngo 3\n   \nstop\n\n"), (2, "number"))

    def test_the_lines_of_this_thread_alone(self):
        self.assertEqual(fault("thread\ngo 2\nthread\nstop\nstop"), (1, "number"))
        self.assertEqual(fault("thread\nstop\nstop\nthread\ngo 2"), (4, "number"))
        self.assertEqual(fault("thread\ngo 2\n  thread  \nstop\nstop"), (1, "number"))
        self.assertEqual(fault("var x = 0\nlock m\nthread\ngo 2"), (3, "number"))
        self.assertIsNone(fault("thread\nstop\nthread\ngo 2\nstop\nthread\nstop"))

    def test_lines_with_faults_count(self):
        self.assertEqual(fault("thread\ngo 3\nnonsense\n???"), (2, "form"))
        self.assertEqual(fault("thread\ngo 4\nnonsense\n???"), (1, "number"))
        self.assertEqual(fault("thread\ngo 2\nthread 1"), (2, "form"))
        self.assertEqual(fault("thread\ngo 3\nthread 1"), (1, "number"))
        self.assertEqual(fault("thread\ngo 2\nvar x = 1"), (2, "form"))
        self.assertEqual(fault("thread\ngo 2\nget a x"), (2, "name"))
        self.assertEqual(fault("thread\ngo 13\n" + "stop\n" * 12), (13, "many"))
        self.assertEqual(fault("thread\ngo 14\n" + "stop\n" * 12), (1, "number"))
        self.assertEqual(fault("thread\ngo 3\nend\nend"), (2, "block"))

    def test_a_go_to_zero(self):
        self.assertIsNone(fault("thread\ngo 0"))
        self.assertEqual(fault("thread\ngo 2"), (1, "number"))

    def test_ahead_of_the_later_faults_of_a_line(self):
        six = "".join(f"var {name} = 0\n" for name in "uvwxyz")
        self.assertEqual(fault(six + "queue q 4\nthread\nstop"), (6, "number"))
        self.assertEqual(fault("thread\n" + "stop\n" * 12 + "go 14"), (13, "number"))
        self.assertEqual(fault("thread\n" + "stop\n" * 12 + "go 13"), (13, "many"))


class ManyFaultTest(unittest.TestCase):
    def test_the_seventh_shared_thing(self):
        six = "".join(f"var {name} = 0\n" for name in "uvwxyz")
        for line in ("var t = 0", "lock t", "queue t 1"):
            self.assertEqual(fault(six + line + "\nthread\nstop"), (6, "many"), line)
        five = "".join(f"var {name} = 0\n" for name in "vwxyz")
        self.assertEqual(fault("lock m\n" + five + "cond t of m\nthread\nstop"), (6, "many"))
        self.assertEqual(fault(six + "\n\nvar t = 0\nthread\nstop"), (8, "many"))

    def test_the_fifth_thread(self):
        self.assertIsNone(fault("thread\nstop\n" * 4))
        self.assertEqual(fault("thread\nstop\n" * 5), (8, "many"))
        self.assertEqual(fault("thread\nstop\n" * 4 + "thread"), (8, "many"))

    def test_the_thirteenth_instruction(self):
        self.assertIsNone(fault("thread\n" + "stop\n" * 12))
        self.assertEqual(fault("thread\n" + "stop\n" * 13), (13, "many"))
        self.assertEqual(fault("thread\nstop\nthread\n" + "stop\n" * 13), (15, "many"))
        self.assertEqual(fault("thread\n" + "stop\n\n" * 13), (25, "many"))

    def test_ahead_of_block(self):
        self.assertEqual(fault("thread\n" + "stop\n" * 12 + "end"), (13, "many"))
        self.assertEqual(fault("thread\nbegin\n" + "stop\n" * 11 + "begin"), (13, "many"))
        self.assertEqual(fault("thread\nbegin\n" + "stop\n" * 11 + "end"), (13, "many"))


class BlockFaultTest(unittest.TestCase):
    def test_what_does_not_alternate(self):
        self.assertEqual(fault("thread\nend"), (1, "block"))
        self.assertEqual(fault("thread\nbegin\nstop\nbegin\nend"), (3, "block"))
        self.assertEqual(fault("thread\nbegin\nend\nstop\nend"), (4, "block"))
        self.assertEqual(fault("thread\nbegin\nend\nbegin\nbegin"), (4, "block"))

    def test_each_thread_for_itself(self):
        self.assertEqual(fault("thread\nbegin\nthread\nend"), (3, "block"))
        self.assertEqual(fault("thread\nbegin\nthread\nbegin\nend"), (5, "block"))
        self.assertIsNone(fault("thread\nbegin\nend\nthread\nbegin\nend"))

    def test_a_block_without_an_end(self):
        self.assertEqual(fault("thread\nbegin"), (2, "block"))
        self.assertEqual(fault("thread\nbegin\n"), (3, "block"))
        self.assertEqual(fault("thread\nbegin\nend\nbegin\nstop\n\n"), (7, "block"))
        self.assertEqual(fault("thread\nbegin\nthread\nstop\n"), (5, "block"))
        self.assertEqual(fault("thread\nstop\nthread\nbegin\nstop"), (5, "block"))

    def test_jumps_do_not_matter(self):
        self.assertEqual(fault("thread\ngo 2\nend\nbegin"), (2, "block"))


class FaultsBehindAllLinesTest(unittest.TestCase):
    def test_no_thread(self):
        self.assertEqual(fault(""), (1, "threads"))
        self.assertEqual(fault("\n"), (2, "threads"))
        self.assertEqual(fault("   "), (1, "threads"))
        self.assertEqual(fault("var x = 1"), (1, "threads"))
        self.assertEqual(fault("var x = 1\nlock m\n"), (3, "threads"))

    def test_a_thread_without_an_instruction(self):
        self.assertEqual(fault("thread"), (1, "empty"))
        self.assertEqual(fault("thread\n"), (2, "empty"))
        self.assertEqual(fault("thread\n\n   \n"), (4, "empty"))
        self.assertEqual(fault("thread\nthread\nstop"), (3, "empty"))
        self.assertEqual(fault("thread\nstop\nthread"), (3, "empty"))
        self.assertEqual(fault("thread\nstop\nthread\n\nthread\nstop\n"), (7, "empty"))

    def test_block_ahead_of_empty(self):
        self.assertEqual(fault("thread\nthread\nbegin"), (3, "block"))
        self.assertEqual(fault("thread\nbegin\nthread"), (3, "block"))

    def test_the_number_of_lines_is_that_of_the_newlines_and_one(self):
        for many in range(5):
            self.assertEqual(fault("thread" + "\n" * many), (many + 1, "empty"))


class FirstFaultTest(unittest.TestCase):
    def test_the_earlier_line_is_told(self):
        faults = [("tokens", "get a ?"), ("form", "get x x"), ("name", "get a y"), ("number", "go 50"),
                  ("block", "end")]
        for word, line in faults:
            for _, other in faults:
                self.assertEqual(fault(f"thread\nstop\n{line}\n{other}\nstop"), (2, word), (line, other))

    def test_a_line_is_told_ahead_of_what_is_missing_behind_all_lines(self):
        self.assertEqual(fault("thread\nbegin\nnonsense"), (2, "form"))
        self.assertEqual(fault("thread\nthread\nend"), (2, "block"))
        self.assertEqual(fault("var x = x"), (0, "form"))

    def test_blank_lines_are_counted(self):
        self.assertEqual(fault("\n\nvar x = 1\n  \nnonsense\nthread\nstop"), (4, "form"))

    def test_the_fault_is_a_turn_error_with_its_fields(self):
        with self.assertRaises(TurnError) as caught:
            read_program("thread\nget a x")
        self.assertEqual(vars(caught.exception), {"line": 1, "word": "name"})

    def test_a_text_with_a_fault_raises_it_each_time(self):
        for _ in range(3):
            self.assertEqual(fault("thread\nget a x"), (1, "name"))
            self.assertIsNone(fault("var x = 1\nthread\nget a x"))


class AskingTest(unittest.TestCase):
    def setUp(self):
        self.program = read_program("var x = 1\nlock m\nqueue q 2\ncond w of m\nlock n\ncond v of n\nthread\nstop\n")

    def test_kind_of(self):
        for name, kind in (("x", "var"), ("m", "lock"), ("n", "lock"), ("w", "cond"), ("v", "cond"), ("q", "queue")):
            self.assertEqual(kind_of(self.program, name), kind)

    def test_kind_of_what_is_not_there(self):
        for name in ("y", "a", "lock", "", "mm", "0", "X"):
            with self.assertRaises(NoSuchPlace) as caught:
                kind_of(self.program, name)
            self.assertEqual(caught.exception.word, "name")
        with self.assertRaises(NoSuchPlace):
            kind_of(read_program("thread\nstop"), "x")

    def test_names_of(self):
        self.assertEqual(names_of(self.program, "var"), ("x",))
        self.assertEqual(names_of(self.program, "lock"), ("m", "n"))
        self.assertEqual(names_of(self.program, "cond"), ("w", "v"))
        self.assertEqual(names_of(self.program, "queue"), ("q",))

    def test_names_of_a_kind_that_no_thing_has(self):
        for kind in ("var", "lock", "cond", "queue"):
            self.assertEqual(names_of(read_program("thread\nstop"), kind), ())

    def test_names_of_are_in_order(self):
        program = read_program("var z = 1\nvar e = 2\nlock y\nvar f = 3\nthread\nstop\n")
        self.assertEqual(names_of(program, "var"), ("z", "e", "f"))

    def test_lock_of(self):
        self.assertEqual(lock_of(self.program, "w"), "m")
        self.assertEqual(lock_of(self.program, "v"), "n")


if __name__ == "__main__":
    unittest.main()
