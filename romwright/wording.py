"""Sections, symbols and effects as words of maps and turns."""

from romwright.plain import name_words
from romwright.units import ALIGNMENTS, BINDINGS, KINDS


def kind_word(section):
    """The word of a section's kind, alignment and mark."""
    return KINDS.index(section.kind) + 8 * ALIGNMENTS.index(section.align) + (64 if section.fixed else 0)


def read_kind(word):
    """(kind, alignment, whether it is fixed) of such a word, or None if no section has it."""
    kind, exponent, mark = word % 8, word // 8 % 8, word // 64
    if kind >= len(KINDS) or exponent >= len(ALIGNMENTS) or mark > 1 or (mark == 1 and KINDS[kind] != "code"):
        return None
    return (KINDS[kind], ALIGNMENTS[exponent], mark == 1)


def effect_word(takes, leaves):
    return takes * 4 + leaves


def read_effect(word):
    """(takes, leaves) of a word, or None."""
    return (word // 4, word % 4) if word // 4 <= 2 and word % 4 <= 2 else None


def symbol_words(section):
    """The words of the symbols of a section, a list."""
    words = []
    for name, place, binding in section.symbols:
        words.extend(name_words(name))
        words.extend([place, BINDINGS.index(binding)])
    return words


def export_words(section):
    """The words of the exports of a section, a list."""
    words = []
    for name, takes, leaves in section.exports:
        words.extend(name_words(name))
        words.append(effect_word(takes, leaves))
    return words
