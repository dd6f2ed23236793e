"""[p1], [p4], [p3]: names, and what an instruction has."""

import unittest

from everyturn.instructions import expression_of, is_name, thing_of

RESERVED = ("var lock cond of queue thread let get put add unlock wait notify all send take check go if begin end "
            "stop and or not").split()
A = ("reg", "a")

# Each instruction, its expression and the shared thing that it names.
KINDS = [
    (("let", "a", A), A, None),
    (("get", "a", "x"), None, "x"),
    (("put", "x", A), A, "x"),
    (("add", "x", A), A, "x"),
    (("lock", "m"), None, "m"),
    (("unlock", "m"), None, "m"),
    (("wait", "w"), None, "w"),
    (("notify", "w"), None, "w"),
    (("notifyall", "w"), None, "w"),
    (("send", "q", A), A, "q"),
    (("take", "b", "q"), None, "q"),
    (("check", A), A, None),
    (("go", 3, None), None, None),
    (("go", 3, A), A, None),
    (("begin",), None, None),
    (("end",), None, None),
    (("stop",), None, None),
]


class IsNameTest(unittest.TestCase):
    def assert_names(self, expected, *texts):
        for text in texts:
            self.assertIs(is_name(text), expected, text)

    def test_words_of_each_length(self):
        self.assert_names(True, "x", "m", "e", "z", "xy", "xyz", "abcdefg", "abcdefgh", "counter1")
        self.assert_names(False, "abcdefghi", "counter12", "abcdefghijklmnop")

    def test_registers(self):
        self.assert_names(False, "a", "b", "c", "d")
        self.assert_names(True, "aa", "ab", "a1", "d0", "e")

    def test_each_reserved_word(self):
        self.assertEqual(len(RESERVED), 25)
        self.assert_names(False, *RESERVED)

    def test_words_close_to_reserved_ones(self):
        self.assert_names(True, *[word + "1" for word in RESERVED], *[word[:-1] + "z" for word in RESERVED])
        self.assert_names(True, "neg", "num", "reg", "op", "run", "woken", "over", "range", "owner")

    def test_a_digit_first(self):
        self.assert_names(False, "1", "0", "42", "1x", "9lives", "0a", "100", "007x")
        self.assert_names(True, "x1", "x007", "x99999")

    def test_other_characters(self):
        self.assert_names(False, "X", "xY", "Lock", "x_y", "_x", "x-y", "-x", "x+", "(x)", "x.", "x!", "x~", "x=1", "=",
                          "*", "?", "x'")

    def test_a_space_or_a_newline_in_the_text(self):
        self.assert_names(False, " x", "x ", "x y", " ", "x\n", "\nx", "x\ny", "\n", " x ")

    def test_the_empty_text(self):
        self.assert_names(False, "")


class PartsTest(unittest.TestCase):
    def test_expression_of(self):
        for instruction, tree, _ in KINDS:
            self.assertEqual(expression_of(instruction), tree, instruction)

    def test_thing_of(self):
        for instruction, _, name in KINDS:
            self.assertEqual(thing_of(instruction), name, instruction)


if __name__ == "__main__":
    unittest.main()
