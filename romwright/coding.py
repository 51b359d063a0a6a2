"""Instructions as words in memory."""

# An op's number is its place here.
CODES = (
    None, "push", "dup", "drop", "swap", "over", "add", "sub", "mul", "less", "same", "load", "store",
    "go short", "go wide", "unless short", "unless wide", "call short", "call wide", "ret", "out", "ask",
    "far", "bring", "save", "confirm", "halt", "hop",
)
SHORT = ("go short", "unless short", "call short")
WITH_WORD = ("push", "go wide", "unless wide", "call wide", "far", "bring", "hop")
HOP = 27 * 256


def first_part(word):
    """(instruction, low part) of a first word, or None if it has no form; a displacement has its sign."""
    number, low = word // 256, word % 256
    if number == 0 or number >= len(CODES):
        return None
    name = CODES[number]
    if name in SHORT:
        return (name, low - 256 if low >= 128 else low)
    return (name, 0) if low == 0 else None


def op_of(name):
    """The op of an instruction, without the form of a branch."""
    return name.split(" ")[0]
