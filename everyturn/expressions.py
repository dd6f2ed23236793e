"""Expressions: read from tokens as trees, written, and evaluated."""

from everyturn.values import operate

REGISTERS = ("a", "b", "c", "d")
MOST_TOKENS = 20
MOST_OPEN = 5
RANGE = "range"

TIGHTNESS = {"or": 0, "and": 1, "=": 2, "<": 2, "+": 3, "-": 3, "*": 4}
LOOSEST = 0
CLAIM = 2
FACTOR = 5
PREFIXES = {"-": "neg", "not": "not"}


def read_expression(parts):
    """Return the tree of a list of tokens; None if they are no expression."""
    if len(parts) > MOST_TOKENS or any([kind == "bad" for kind, text in parts]):
        return None
    found = _read_level(parts, 0, LOOSEST, 0)
    if found is None or found[1] < len(parts):
        return None
    return found[0]


def _read_level(parts, at, level, opened):
    """Read what binds as tightly as a level: the tuple of its tree and the place behind it, or None."""
    if level == FACTOR:
        return _read_factor(parts, at, opened)
    found = _read_level(parts, at, level + 1, opened)
    while found is not None and _level_at(parts, found[1]) == level:
        left, at = found
        right = _read_level(parts, at + 1, level + 1, opened)
        if right is None:
            return None
        found = (("op", parts[at][1], left, right[0]), right[1])
        # Claims do not stand in a row: a second sign of this level is left over.
        if level == CLAIM:
            return found
    return found


def _level_at(parts, at):
    if at == len(parts):
        return None
    return TIGHTNESS.get(parts[at][1])


def _read_factor(parts, at, opened):
    if at == len(parts):
        return None
    kind, text = parts[at]
    if kind == "number":
        return ("num", int(text)), at + 1
    if text in REGISTERS:
        return ("reg", text), at + 1
    if text in PREFIXES:
        below = _read_factor(parts, at + 1, opened)
        return None if below is None else ((PREFIXES[text], below[0]), below[1])
    if text == "(" and opened < MOST_OPEN:
        return _read_brackets(parts, at, opened)
    return None


def _read_brackets(parts, at, opened):
    found = _read_level(parts, at + 1, LOOSEST, opened + 1)
    if found is None or found[1] == len(parts) or parts[found[1]][1] != ")":
        return None
    return found[0], found[1] + 1


def write_expression(tree):
    """Return the string of a tree."""
    if tree[0] == "num":
        return str(tree[1])
    if tree[0] == "reg":
        return tree[1]
    if tree[0] == "neg":
        return "-" + _write_below(tree[1], FACTOR)
    if tree[0] == "not":
        return "not " + _write_below(tree[1], FACTOR)
    level = TIGHTNESS[tree[1]]
    # Claims do not stand in a row, so one on the left of another needs brackets, too.
    left = _write_below(tree[2], level + 1 if level == CLAIM else level)
    right = _write_below(tree[3], level + 1)
    return f"{left} {tree[1]} {right}"


def _write_below(tree, level):
    """Write an operand, in brackets if it binds less tightly than a level."""
    text = write_expression(tree)
    if tree[0] == "op" and TIGHTNESS[tree[1]] < level:
        return f"({text})"
    return text


def evaluate(tree, registers):
    """Return the value of a tree, or "range" if some result on the way is no value."""
    if tree[0] == "num":
        return tree[1]
    if tree[0] == "reg":
        return registers[REGISTERS.index(tree[1])]
    operands = tree[2:] if tree[0] == "op" else tree[1:]
    values = [evaluate(operand, registers) for operand in operands]
    if RANGE in values:
        return RANGE
    if tree[0] == "neg":
        return -values[0]
    if tree[0] == "not":
        return int(values[0] == 0)
    result = operate(tree[1], values[0], values[1])
    return RANGE if result is None else result
