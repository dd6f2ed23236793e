"""Values, the integers that threads calculate with, and the operations on them."""

LEAST = -99
GREATEST = 99


def is_value(n):
    """Tell whether an integer is a value."""
    return LEAST <= n <= GREATEST


def operate(sign, x, y):
    """Return the result of a sign on two values; None if it is no value."""
    if sign == "+":
        result = x + y
    elif sign == "-":
        result = x - y
    elif sign == "*":
        result = x * y
    else:
        result = int(_holds(sign, x, y))
    return result if is_value(result) else None


def _holds(sign, x, y):
    if sign == "=":
        return x == y
    if sign == "<":
        return x < y
    if sign == "and":
        return x != 0 and y != 0
    return x != 0 or y != 0
