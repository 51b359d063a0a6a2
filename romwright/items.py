"""The forms of instructions and items, and their numbers of words."""

from romwright.plain import is_name, is_word

SIMPLE_OPS = (
    "dup", "drop", "swap", "over", "add", "sub", "mul", "less", "same", "load", "store",
    "ret", "out", "ask", "save", "confirm", "halt",
)
BRANCHES = ("go", "unless", "call")
LAST_OPS = ("go", "ret", "halt")
# The ops whose instructions have a second word, with all branches wide.
LONG_OPS = ("push", "name", "go", "unless", "call", "far", "bring")


def is_count(thing):
    """Whether this can be a number of values that are taken or left."""
    return isinstance(thing, int) and not isinstance(thing, bool) and 0 <= thing <= 2


def is_named_word(item):
    """Whether what follows the first part of an item is a name and a word."""
    return len(item) == 3 and is_name(item[1]) and is_word(item[2])


def is_instruction(thing):
    if not isinstance(thing, tuple) or len(thing) == 0:
        return False
    op = thing[0]
    if op == "push":
        return len(thing) == 2 and is_word(thing[1])
    if op == "name":
        return is_named_word(thing)
    if op in BRANCHES or op == "bring":
        return len(thing) == 2 and is_name(thing[1])
    if op == "far":
        return (len(thing) == 5 and is_name(thing[1]) and is_name(thing[2])
                and is_count(thing[3]) and is_count(thing[4]))
    return op in SIMPLE_OPS and len(thing) == 1


def is_at_item(thing):
    return isinstance(thing, tuple) and is_named_word(thing) and thing[0] == "at"


def is_item(kind, thing):
    """Whether a section of this kind can have this item."""
    if kind == "code":
        return is_instruction(thing)
    if kind == "zero":
        return is_word(thing) and thing == 0
    if kind == "kept":
        return is_word(thing)
    return is_word(thing) or is_at_item(thing)


def most_items(kind, fixed):
    """How many items a section can have."""
    if kind != "code":
        return 120
    return 40 if fixed else 100


def last_place(kind, count):
    """The greatest place that a symbol can have in a section with so many items."""
    return count if kind in ("const", "data", "zero") else count - 1


def item_size(kind, item):
    """The number of words of an item, with all branches wide."""
    return 2 if kind == "code" and item[0] in LONG_OPS else 1


def words_of(kind, body):
    """The number of words of all items, with all branches wide."""
    return sum([item_size(kind, item) for item in body])


def referred(item):
    """The name that an item refers to, or None."""
    if isinstance(item, tuple) and item[0] in ("name", "at", "go", "unless", "call", "bring"):
        return item[1]
    return None
