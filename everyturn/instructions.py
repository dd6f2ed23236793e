"""The instructions of a thread: their forms as lines and as tuples, and what each one names."""

from everyturn.expressions import REGISTERS, read_expression
from everyturn.tokens import tokens

RESERVED = (
    "var", "lock", "cond", "of", "queue", "thread", "let", "get", "put", "add", "unlock", "wait", "notify", "all",
    "send", "take", "check", "go", "if", "begin", "end", "stop", "and", "or", "not",
)

# The places of a form: R for registers, X for names, N for numbers; at its end V for a first value, E for an
# expression.
PLACES = ("R", "X", "N", "V", "E")
PLAIN_GO = "go N"
FORMS = (
    ("let", "let R = E"),
    ("get", "get R X"),
    ("put", "put X E"),
    ("add", "add X E"),
    ("lock", "lock X"),
    ("unlock", "unlock X"),
    ("wait", "wait X"),
    ("notify", "notify X"),
    ("notifyall", "notify all X"),
    ("send", "send X E"),
    ("take", "take R X"),
    ("check", "check E"),
    ("go", "go N if E"),
    ("begin", "begin"),
    ("end", "end"),
    ("stop", "stop"),
)

EXPRESSION_AT = {"let": 2, "put": 2, "add": 2, "send": 2, "check": 1, "go": 2}
NAME_AT = {
    "get": 2, "put": 1, "add": 1, "lock": 1, "unlock": 1, "wait": 1, "notify": 1, "notifyall": 1, "send": 1, "take": 2,
}
KINDS = {
    "get": "var", "put": "var", "add": "var", "lock": "lock", "unlock": "lock",
    "wait": "cond", "notify": "cond", "notifyall": "cond", "send": "queue", "take": "queue",
}


def is_name(text):
    """Tell whether a string is a name."""
    return tokens(text) == [("word", text)] and text not in REGISTERS and text not in RESERVED


def expression_of(instruction):
    """Return the tree of an instruction; None if it has none."""
    at = EXPRESSION_AT.get(instruction[0])
    return None if at is None else instruction[at]


def thing_of(instruction):
    """Return the name of the shared thing that an instruction names; None if there is none."""
    at = NAME_AT.get(instruction[0])
    return None if at is None else instruction[at]


def kind_needed(instruction):
    """Return the kind of the shared thing that an instruction names; None if there is none."""
    return KINDS.get(instruction[0])


def read_instruction(parts):
    """Return the instruction of a line's tokens, whatever its name and number are; None if they have no form."""
    plain = read_form(PLAIN_GO, parts)
    if plain is not None:
        return ("go", plain[0], None)
    return read_one_of(FORMS, parts)


def read_one_of(forms, parts):
    """Return the tuple that tokens have by the one of these forms that they fit; None if they fit none."""
    for word, form in forms:
        found = read_form(form, parts)
        if found is not None:
            return (word, *found)
    return None


def read_form(form, parts):
    """Return the list of what stands in the places of a form; None if the tokens do not fit it."""
    found = []
    left = parts
    for place in form.split():
        if place in ("V", "E"):
            worth = read_expression(left) if place == "E" else _first_value(left)
            left = []
        else:
            worth = _part_at(place, left)
            left = left[1:]
        if worth is None:
            return None
        if place in PLACES:
            found.append(worth)
    return found if left == [] else None


def _part_at(place, left):
    """Return what the first token is in a place of a form; None if it cannot stand there."""
    if left == []:
        return None
    kind, text = left[0]
    if place == "N":
        return int(text) if kind == "number" else None
    if place == "X":
        return text if kind == "word" else None
    if place == "R":
        return text if text in REGISTERS else None
    return text if text == place else None


def _first_value(left):
    below_zero = left[:1] == [("sign", "-")]
    digits = left[1:] if below_zero else left
    if len(digits) != 1 or digits[0][0] != "number":
        return None
    return -int(digits[0][1]) if below_zero else int(digits[0][1])
