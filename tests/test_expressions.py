"""[v1], [v3], [v4]: expressions, read, written and evaluated."""

import unittest
from functools import lru_cache
from itertools import product

from everyturn.expressions import evaluate, read_expression, write_expression
from everyturn.tokens import tokens

A, B, C, D = [("reg", letter) for letter in "abcd"]
SIGNS = ("+", "-", "*", "=", "<", "and", "or")


def num(n):
    return ("num", n)


def op(sign, left, right):
    return ("op", sign, left, right)


def read(text):
    return read_expression(tokens(text))


class ReadTest(unittest.TestCase):
    def assert_tree(self, text, tree):
        self.assertEqual(read(text), tree, text)

    def assert_none(self, *texts):
        for text in texts:
            self.assertIsNone(read(text), text)

    def test_numbers(self):
        for n in range(100):
            self.assert_tree(str(n), num(n))

    def test_registers(self):
        for letter in "abcd":
            self.assert_tree(letter, ("reg", letter))

    def test_prefixes(self):
        self.assert_tree("-a", ("neg", A))
        self.assert_tree("- 3", ("neg", num(3)))
        self.assert_tree("not a", ("not", A))
        self.assert_tree("--a", ("neg", ("neg", A)))
        self.assert_tree("not not a", ("not", ("not", A)))
        self.assert_tree("- not -3", ("neg", ("not", ("neg", num(3)))))
        self.assert_tree("not(a)", ("not", A))
        self.assert_tree("-(a)", ("neg", A))

    def test_prefixes_apply_to_the_factor_alone(self):
        self.assert_tree("-a * b", op("*", ("neg", A), B))
        self.assert_tree("not a * b", op("*", ("not", A), B))
        self.assert_tree("not a = b", op("=", ("not", A), B))
        self.assert_tree("-a + b", op("+", ("neg", A), B))
        self.assert_tree("not a and b", op("and", ("not", A), B))
        self.assert_tree("a * -b", op("*", A, ("neg", B)))
        self.assert_tree("a - -b", op("-", A, ("neg", B)))
        self.assert_tree("a + not b", op("+", A, ("not", B)))

    def test_each_sign(self):
        for sign in SIGNS:
            self.assert_tree(f"a {sign} 7", op(sign, A, num(7)))

    def test_binding_from_the_left(self):
        for sign in ("+", "-", "*", "and", "or"):
            self.assert_tree(f"a {sign} b {sign} c {sign} d", op(sign, op(sign, op(sign, A, B), C), D))
        self.assert_tree("a - b + c", op("+", op("-", A, B), C))
        self.assert_tree("a + b - c", op("-", op("+", A, B), C))

    def test_each_row_binds_more_tightly_than_the_one_above_it(self):
        rows = (("or",), ("and",), ("=", "<"), ("+", "-"), ("*",))
        for loose, tight in ((loose, tight) for at, loose in enumerate(rows) for tight in rows[at + 1:]):
            for low, high in product(loose, tight):
                self.assert_tree(f"a {low} b {high} c", op(low, A, op(high, B, C)))
                self.assert_tree(f"a {high} b {low} c", op(low, op(high, A, B), C))

    def test_brackets(self):
        self.assert_tree("(a)", A)
        self.assert_tree("((7))", num(7))
        self.assert_tree("(a + b) * c", op("*", op("+", A, B), C))
        self.assert_tree("a * (b + c)", op("*", A, op("+", B, C)))
        self.assert_tree("a - (b - c)", op("-", A, op("-", B, C)))
        self.assert_tree("-(a + b)", ("neg", op("+", A, B)))
        self.assert_tree("not (a or b)", ("not", op("or", A, B)))
        self.assert_tree("(a or b) and (c = d)", op("and", op("or", A, B), op("=", C, D)))
        self.assert_tree("(a = b) = c", op("=", op("=", A, B), C))
        self.assert_tree("a < (b < c)", op("<", A, op("<", B, C)))

    def test_several_claims_in_one_expression(self):
        self.assert_tree("a = b and c < d", op("and", op("=", A, B), op("<", C, D)))
        self.assert_tree("a < 1 or a = 2 or a = 3", op("or", op("or", op("<", A, num(1)), op("=", A, num(2))),
                                                       op("=", A, num(3))))

    def test_nothing_is_no_expression(self):
        self.assertIsNone(read_expression([]))
        self.assert_none("", "  ", "()", "( )", "(())")

    def test_a_missing_operand(self):
        for sign in SIGNS:
            self.assert_none(sign, f"a {sign}", f"(a {sign}) b", f"a {sign} ()", f"(a {sign})", f"a {sign} * b")
        for sign in ("+", "*", "=", "<", "and", "or"):
            self.assert_none(f"{sign} a", f"a + {sign} b", f"({sign} a)", f"a {sign} {sign} b")
        self.assert_none("-", "not", "a not", "a - not", "--")

    def test_a_missing_sign(self):
        self.assert_none("a b", "1 2", "a 1", "2 a", "a (b)", "(a) b", "(a)(b)", "a not b")

    def test_a_missing_bracket(self):
        self.assert_none("(", ")", "(a", "a)", "((a)", "(a))", "a + (b", "a + b)", ")a(", "-(", "not (a", "(a + b",
                         "(a + b * c", "((a + b) * c")

    def test_two_claims_in_a_row(self):
        for one, other in product("=<", "=<"):
            self.assert_none(f"a {one} b {other} c", f"(a {one} b {other} c)", f"a and b {one} c {other} d",
                             f"a {one} b + 1 {other} c")

    def test_a_name_that_is_no_register(self):
        self.assert_none("x", "e", "a + x", "ab", "a1", "if", "thread", "neg", "num", "-x", "(x)")

    def test_a_bad_token(self):
        self.assert_none("100", "01", "a + 100", "a % b", "a > b", "a / b", "A", "a + 007", "abcdefghi", "a !", "[a]")
        self.assertIsNone(read_expression([("bad", "a")]))
        self.assertIsNone(read_expression([("word", "a"), ("bad", "+"), ("word", "b")]))

    def test_exactly_twenty_tokens_and_one_more(self):
        twenty = "-" + " + ".join("a" * 10)
        self.assertEqual(len(tokens(twenty)), 20)
        tree = ("neg", A)
        for _ in range(9):
            tree = op("+", tree, A)
        self.assert_tree(twenty, tree)
        self.assertEqual(len(tokens("-" + twenty)), 21)
        self.assert_none("-" + twenty)
        nineteen = " * ".join("b" * 10)
        self.assertIsNotNone(read(nineteen))
        self.assert_none(nineteen + " * b")

    def test_brackets_count_as_tokens(self):
        text = "(a + b) * (a + b) * (a + b) - 1"
        self.assertEqual(len(tokens(text)), 19)
        self.assertIsNotNone(read(text))
        self.assertIsNotNone(read("-" + text))
        self.assert_none("--" + text)
        self.assert_none("(" + text + ")")

    def test_brackets_exactly_five_deep_and_one_more(self):
        self.assert_tree("(((((a)))))", A)
        self.assert_none("((((((a))))))")
        self.assert_tree("(((((a) + 1))))", op("+", A, num(1)))
        self.assert_none("(((((1 + (a))))))")
        self.assert_none("-((((-(not (a))))))")

    def test_brackets_side_by_side_are_not_nested(self):
        self.assert_tree("(a) * (a) * (a) * (a) * (a)", op("*", op("*", op("*", op("*", A, A), A), A), A))
        self.assert_tree("((((a)))) - ((((b))))", op("-", A, B))
        self.assert_tree("(a) + (((((b)))))", op("+", A, B))
        six = "(1)+(2)+(3)+(4)+5"
        self.assertEqual(len(tokens(six)), 17)
        self.assertIsNotNone(read(six))

    def test_the_argument_stays_as_it_was(self):
        for text in ("-(a + 2) * 3", "(a", "a b", ""):
            parts = tokens(text)
            read_expression(parts)
            self.assertEqual(parts, tokens(text))


@lru_cache(maxsize=None)
def derive(texts, row):
    """All trees that the grammar has for some tokens from one of its rows on, by trying every place to split."""
    rows = (("or",), ("and",), ("=", "<"), ("+", "-"), ("*",))
    if row == len(rows):
        return derive_factor(texts)
    trees = list(derive(texts, row + 1))
    for at, text in enumerate(texts):
        if text in rows[row]:
            left = row + 1 if text in "=<" else row
            for pair in product(derive(texts[:at], left), derive(texts[at + 1:], row + 1)):
                trees.append(op(text, *pair))
    return tuple(trees)


def derive_factor(texts):
    if len(texts) == 1:
        return {"a": (A,), "1": (num(1),)}.get(texts[0], ())
    if texts[:1] in (("-",), ("not",)):
        return tuple(({"-": "neg", "not": "not"}[texts[0]], tree) for tree in derive_factor(texts[1:]))
    if texts[:1] == ("(",) and texts[-1] == ")":
        return derive(texts[1:-1], 0)
    return ()


class GrammarTest(unittest.TestCase):
    def check(self, words, most):
        kinds = {"a": "word", "1": "number", "not": "word", "and": "word", "or": "word"}
        for length in range(most + 1):
            for texts in product(words, repeat=length):
                expected = derive(texts, 0)
                self.assertLessEqual(len(expected), 1, texts)
                tree = read_expression([(kinds.get(text, "sign"), text) for text in texts])
                self.assertEqual(tree, expected[0] if expected else None, texts)

    def test_all_short_rows_of_tokens(self):
        self.check(("a", "1", "+", "-", "*", "=", "<", "and", "or", "not", "(", ")"), 4)

    def test_all_longer_rows_of_some_tokens(self):
        self.check(("a", "-", "*", "="), 7)
        self.check(("a", "or", "and", "<"), 7)
        self.check(("a", "+", "(", ")"), 8)


def small_trees(leaves, depth):
    """All trees over these leaves with so many operators on the longest way down."""
    trees = list(leaves)
    for _ in range(depth):
        below = list(trees)
        trees = list(leaves) + [(prefix, tree) for prefix in ("neg", "not") for tree in below]
        trees += [op(sign, *pair) for sign in SIGNS for pair in product(below, below)]
    return trees


def bracket_pairs(parts):
    """The places of the brackets that belong together."""
    pairs, waiting = [], []
    for at, part in enumerate(parts):
        if part[1] == "(":
            waiting.append(at)
        elif part[1] == ")":
            pairs.append((waiting.pop(), at))
    return pairs


class WriteTest(unittest.TestCase):
    def assert_written(self, tree, text):
        self.assertEqual(write_expression(tree), text)
        self.assertEqual(read(text), tree)

    def test_leaves(self):
        for n in (0, 5, 10, 99):
            self.assert_written(num(n), str(n))
        for letter in "abcd":
            self.assert_written(("reg", letter), letter)

    def test_prefixes(self):
        self.assert_written(("neg", A), "-a")
        self.assert_written(("neg", num(3)), "-3")
        self.assert_written(("neg", ("neg", A)), "--a")
        self.assert_written(("not", A), "not a")
        self.assert_written(("not", ("not", A)), "not not a")
        self.assert_written(("not", ("neg", A)), "not -a")
        self.assert_written(("neg", ("not", A)), "-not a")

    def test_one_space_on_each_side_of_a_sign(self):
        for sign in SIGNS:
            self.assert_written(op(sign, A, num(12)), f"a {sign} 12")

    def test_prefixes_as_operands_have_no_brackets(self):
        for sign in SIGNS:
            self.assert_written(op(sign, ("neg", A), ("not", B)), f"-a {sign} not b")
            self.assert_written(op(sign, ("not", A), ("neg", B)), f"not a {sign} -b")

    def test_an_operator_that_binds_less_tightly(self):
        self.assert_written(op("*", op("+", A, B), C), "(a + b) * c")
        self.assert_written(op("*", C, op("-", A, B)), "c * (a - b)")
        self.assert_written(op("+", op("=", A, B), C), "(a = b) + c")
        self.assert_written(op("-", C, op("<", A, B)), "c - (a < b)")
        self.assert_written(op("<", op("and", A, B), C), "(a and b) < c")
        self.assert_written(op("=", C, op("or", A, B)), "c = (a or b)")
        self.assert_written(op("and", op("or", A, B), C), "(a or b) and c")
        self.assert_written(op("and", C, op("or", A, B)), "c and (a or b)")
        self.assert_written(op("*", op("or", A, B), op("and", A, B)), "(a or b) * (a and b)")

    def test_an_operator_that_binds_more_tightly(self):
        self.assert_written(op("+", op("*", A, B), C), "a * b + c")
        self.assert_written(op("-", C, op("*", A, B)), "c - a * b")
        self.assert_written(op("=", op("+", A, B), op("-", C, D)), "a + b = c - d")
        self.assert_written(op("and", op("=", A, B), op("<", C, D)), "a = b and c < d")
        self.assert_written(op("or", op("and", A, B), op("and", C, D)), "a and b or c and d")
        self.assert_written(op("or", op("*", A, B), op("+", C, D)), "a * b or c + d")

    def test_an_operator_that_binds_as_tightly(self):
        for one, other in (("+", "+"), ("+", "-"), ("-", "+"), ("-", "-"), ("*", "*"), ("and", "and"), ("or", "or")):
            self.assert_written(op(other, op(one, A, B), C), f"a {one} b {other} c")
            self.assert_written(op(other, A, op(one, B, C)), f"a {other} (b {one} c)")

    def test_claims_on_both_sides_of_claims(self):
        for one, other in product("=<", "=<"):
            self.assert_written(op(other, op(one, A, B), C), f"(a {one} b) {other} c")
            self.assert_written(op(other, A, op(one, B, C)), f"a {other} (b {one} c)")

    def test_an_operator_under_a_prefix(self):
        for sign in SIGNS:
            self.assert_written(("neg", op(sign, A, B)), f"-(a {sign} b)")
            self.assert_written(("not", op(sign, A, B)), f"not (a {sign} b)")
            self.assert_written(("neg", ("not", op(sign, A, B))), f"-not (a {sign} b)")

    def test_what_is_written_and_then_read_is_the_same_tree(self):
        for tree in small_trees([num(0), A], 2):
            self.assertEqual(read(write_expression(tree)), tree)

    def test_no_bracket_stands_where_it_could_be_left_out(self):
        for tree in small_trees([num(10), B], 2):
            parts = tokens(write_expression(tree))
            for first, last in bracket_pairs(parts):
                without = parts[:first] + parts[first + 1:last] + parts[last + 1:]
                self.assertNotEqual(read_expression(without), tree, parts)

    def test_a_tree_that_needs_more_than_twenty_tokens(self):
        tree = A
        for _ in range(30):
            tree = op("+", tree, A)
        self.assertEqual(write_expression(tree), " + ".join("a" * 31))

    def test_brackets_more_than_five_deep(self):
        tree = A
        for _ in range(7):
            tree = op("-", B, tree)
        self.assertEqual(write_expression(tree), "b - (b - (b - (b - (b - (b - (b - a))))))")


class EvaluateTest(unittest.TestCase):
    def assert_value(self, text, expected, registers=(0, 0, 0, 0)):
        result = evaluate(read(text), registers)
        self.assertEqual(result, expected, text)
        self.assertIs(type(result), type(expected), text)

    def test_numbers_and_registers(self):
        self.assert_value("0", 0)
        self.assert_value("99", 99)
        for at, letter in enumerate("abcd"):
            self.assert_value(letter, (7, -8, 99, -99)[at], (7, -8, 99, -99))

    def test_neg(self):
        self.assert_value("-a", -5, (5, 0, 0, 0))
        self.assert_value("-a", 99, (-99, 0, 0, 0))
        self.assert_value("-99", -99)
        self.assert_value("-0", 0)
        self.assert_value("--a", -4, (-4, 0, 0, 0))

    def test_not(self):
        self.assert_value("not 0", 1)
        self.assert_value("not 1", 0)
        self.assert_value("not 42", 0)
        self.assert_value("not -1", 0)
        self.assert_value("not not 7", 1)
        self.assert_value("not a", 0, (-99, 0, 0, 0))

    def test_each_sign(self):
        registers = (6, -4, 0, 2)
        for text, expected in (("a + b", 2), ("a - b", 10), ("a * b", -24), ("a = b", 0), ("a = 6", 1), ("b < a", 1),
                               ("a < b", 0), ("a and b", 1), ("a and c", 0), ("c or b", 1), ("c or c", 0)):
            self.assert_value(text, expected, registers)

    def test_operands_are_left_and_right(self):
        self.assert_value("a - b - c", -4, (1, 2, 3, 0))
        self.assert_value("a - (b - c)", 2, (1, 2, 3, 0))
        self.assert_value("a < b", 1, (-1, 0, 0, 0))

    def test_results_just_inside_and_just_outside(self):
        self.assert_value("a + 1", 99, (98, 0, 0, 0))
        self.assert_value("a + 1", "range", (99, 0, 0, 0))
        self.assert_value("a - 1", -99, (-98, 0, 0, 0))
        self.assert_value("a - 1", "range", (-99, 0, 0, 0))
        self.assert_value("a * 9", 99, (11, 0, 0, 0))
        self.assert_value("a * b", "range", (10, 10, 0, 0))
        self.assert_value("a * b", "range", (10, -10, 0, 0))

    def test_range_on_the_way_where_the_last_result_would_be_a_value(self):
        registers = (99, 10, 0, 0)
        for text in ("a + 1 - 1", "a + 1 - 50", "b * b * 0", "0 * (b * b)", "a - (a + 1)", "b * b = b * b", "0 = a + 1",
                     "(a + a) * 0", "-(a + 1)", "not (a + 1)", "-(b * b) + 50", "not not (a + 1)", "-a - 1 + 1"):
            self.assert_value(text, "range", registers)

    def test_both_operands_are_always_evaluated(self):
        registers = (99, 0, 1, 0)
        for text in ("b and a + 1", "a + 1 and b", "c or a + 1", "a + 1 or c", "b < a + 1", "a + 1 = b",
                     "c or (b and a + 1)", "(c or a + 1) and b", "a + 1 and a + 1", "a * a or -a - 1"):
            self.assert_value(text, "range", registers)

    def test_the_example_of_a_failure(self):
        self.assert_value("a * a - 1", "range", (10, 0, 0, 0))
        self.assert_value("a * a - 1", 80, (9, 0, 0, 0))

    def test_a_tree_that_needs_more_than_twenty_tokens(self):
        tree = A
        for _ in range(30):
            tree = op("+", tree, A)
        self.assertEqual(evaluate(tree, (3, 0, 0, 0)), 93)
        self.assertEqual(evaluate(tree, (4, 0, 0, 0)), "range")

    def test_small_trees_against_python(self):
        signs = {"+": lambda x, y: x + y, "-": lambda x, y: x - y, "*": lambda x, y: x * y,
                 "=": lambda x, y: x == y, "<": lambda x, y: x < y,
                 "and": lambda x, y: x != 0 and y != 0, "or": lambda x, y: x != 0 or y != 0}

        def expected(tree):
            if tree[0] in ("num", "reg"):
                return {num(60): 60, A: 2, B: -7}[tree]
            below = [expected(part) for part in tree[1:] if isinstance(part, tuple)]
            if "range" in below:
                return "range"
            if tree[0] == "neg":
                return -below[0]
            result = int(below[0] == 0) if tree[0] == "not" else int(signs[tree[1]](*below))
            return result if abs(result) <= 99 else "range"

        for tree in small_trees([num(60), A], 2) + small_trees([B, A], 2):
            self.assertEqual(evaluate(tree, (2, -7, 0, 0)), expected(tree), tree)


if __name__ == "__main__":
    unittest.main()
