"""The forms of a script's lines: each is read to a plain tuple, its first word ahead."""

from romwright.exprs import read_expr
from romwright.lines import decimal, is_decimal, word_of
from romwright.plain import BadWords, is_name
from romwright.units import ALIGNMENTS, KINDS


def read_statement(line):
    """The tuple of a line, or None if it is no statement by its form."""
    words = line.split(" ")
    if words[0] not in READERS:
        return None
    reader = READERS[words[0]]
    return reader(words)


def are_names(words):
    return all([is_name(word) for word in words])


def is_pattern(text):
    parts = text.split(".")
    if len(parts) != 2 or not (parts[0] == "*" or is_name(parts[0])):
        return False
    return parts[1] == "*" or is_name(parts[1]) or kind_of(parts[1]) is not None


def kind_of(text):
    """The kind that stands in brackets, or None."""
    kind = text[1:-1]
    return kind if kind in KINDS and text == f"[{kind}]" else None


def read_alignment(text):
    number = word_of(text)
    return number if number in ALIGNMENTS else None


def read_patterns(words):
    """The patterns behind `take`, or None."""
    if len(words) < 2 or words[0] != "take" or not all([is_pattern(word) for word in words[1:]]):
        return None
    return tuple(words[1:])


def read_taking(words):
    """(align, fill, patterns) of `align A fill W take PATTERN ..`, or None."""
    if len(words) < 4 or words[0] != "align" or words[2] != "fill":
        return None
    align, fill, take = read_alignment(words[1]), word_of(words[3]), read_patterns(words[4:])
    if align is None or fill is None or take is None:
        return None
    return (align, fill, take)


def read_region(words):
    if len(words) != 5 or not is_name(words[1]) or words[2] not in ("rom", "ram"):
        return None
    if not is_decimal(words[3]) or not is_decimal(words[4]):
        return None
    return ("region", words[1], words[2], decimal(words[3]), decimal(words[4]))


def read_place(words):
    if len(words) < 5 or words[2] != "in" or not are_names([words[1], words[3]]):
        return None
    rest = words[4:]
    load = None
    if rest[0] == "load":
        if len(rest) < 2 or not is_name(rest[1]):
            return None
        load = rest[1]
        rest = rest[2:]
    taking = read_taking(rest)
    return None if taking is None else ("place", words[1], words[3], load) + taking


def read_free(words):
    # The first region may be called align.
    if len(words) < 4 or words[2] != "in" or "align" not in words[4:]:
        return None
    at = 4 + words[4:].index("align")
    taking = read_taking(words[at:])
    if taking is None or not is_name(words[1]) or not are_names(words[3:at]):
        return None
    return ("free", words[1], tuple(words[3:at])) + taking


def read_overlay(words):
    if len(words) != 8 or [words[2], words[4], words[6]] != ["in", "load", "fill"]:
        return None
    fill = word_of(words[7])
    if fill is None or not are_names([words[1], words[3], words[5]]):
        return None
    return ("overlay", words[1], words[3], words[5], fill)


def read_part(words):
    if len(words) < 5 or words[2] != "align" or not is_name(words[1]):
        return None
    align, take = read_alignment(words[3]), read_patterns(words[4:])
    if align is None or take is None:
        return None
    return ("part", words[1], align, take)


def read_entry(words):
    return ("entry", words[1]) if len(words) == 2 and is_name(words[1]) else None


def read_keep(words):
    return ("keep", words[1]) if len(words) == 2 and is_pattern(words[1]) else None


def read_let(words):
    if len(words) < 3 or words[2] != "be" or not is_name(words[1]):
        return None
    tree = read_tree(words[3:])
    return None if tree is None else ("let", words[1], tree)


def read_claim(words):
    tree = read_tree(words[1:])
    return None if tree is None else ("claim", tree)


def read_tree(words):
    """The tree of an expression's words, or None."""
    try:
        return read_expr(words)
    except BadWords:
        return None


READERS = {
    "region": read_region, "place": read_place, "free": read_free, "overlay": read_overlay, "part": read_part,
    "entry": read_entry, "keep": read_keep, "let": read_let, "claim": read_claim,
}
