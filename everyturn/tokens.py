"""The tokens of a line: numbers, words, signs, and what is none of them."""

DIGITS = "0123456789"
LETTERS = "abcdefghijklmnopqrstuvwxyz"
SIGNS = "+-*=<()"
LONGEST_WORD = 8


def tokens(line):
    """Return the list of the tokens of a line, as tuples of a kind and a string."""
    found = []
    at = 0
    while at < len(line):
        if line[at] == " ":
            at += 1
        else:
            token = _token_at(line, at)
            found.append(token)
            at += len(token[1])
    return found


def _token_at(line, at):
    if line[at] in DIGITS:
        run = _run_at(line, at, DIGITS)
        return ("number" if _is_number(run) else "bad", run)
    if line[at] in LETTERS:
        run = _run_at(line, at, LETTERS + DIGITS)
        return ("word" if len(run) <= LONGEST_WORD else "bad", run)
    return ("sign" if line[at] in SIGNS else "bad", line[at])


def _run_at(line, at, characters):
    end = at
    while end < len(line) and line[end] in characters:
        end += 1
    return line[at:end]


def _is_number(digits):
    return len(digits) == 1 or (len(digits) == 2 and digits[0] != "0")
