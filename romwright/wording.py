"""Sections, symbols and effects as words of maps and turns."""

from romwright.plain import name_words, RomError, words_name
from romwright.units import ALIGNMENTS, BINDINGS, KINDS


class Misplaced(RomError):
    """A word cannot stand where it stands; those who read tell this by an error of their own."""

    def __init__(self, place):
        self.place = place


class WordReader:
    """Takes words one after the other."""

    def __init__(self, words):
        self.words = words
        self.at = 0

    def take_word(self):
        if self.at >= len(self.words):
            raise Misplaced(len(self.words))
        self.at += 1
        return self.words[self.at - 1]

    def take_count(self):
        """A number of things, each of which has at least one of the words behind it."""
        number = self.take_word()
        if number > len(self.words) - self.at:
            raise Misplaced(self.at - 1)
        return number

    def take_name(self):
        if self.at + 3 > len(self.words):
            raise Misplaced(len(self.words))
        name = words_name(self.words[self.at:self.at + 3])
        if name is None:
            raise Misplaced(self.at)
        self.at += 3
        return name

    def take_kind(self):
        """(kind, alignment, whether it is fixed)."""
        told = read_kind(self.take_word())
        if told is None:
            raise Misplaced(self.at - 1)
        return told

    def take_effect(self):
        """(takes, leaves)."""
        told = read_effect(self.take_word())
        if told is None:
            raise Misplaced(self.at - 1)
        return told

    def take_symbol(self):
        name, place, number = self.take_name(), self.take_word(), self.take_word()
        if number >= len(BINDINGS):
            raise Misplaced(self.at - 1)
        return (name, place, BINDINGS[number])

    def take_export(self):
        return (self.take_name(),) + self.take_effect()

    def take_flag(self):
        number = self.take_word()
        if number > 1:
            raise Misplaced(self.at - 1)
        return number

    def finish(self):
        """There must be no words behind the end."""
        if self.at < len(self.words):
            raise Misplaced(self.at)


def kind_word(section):
    """The word of a section's kind, alignment and mark."""
    return KINDS.index(section.kind) + 8 * ALIGNMENTS.index(section.align) + (64 if section.fixed else 0)


def read_kind(word):
    """(kind, alignment, whether it is fixed) of such a word, or None if no section has it."""
    kind, exponent, mark = word % 8, word // 8 % 8, word // 64
    if kind >= len(KINDS) or exponent >= len(ALIGNMENTS) or mark > 1 or (mark == 1 and KINDS[kind] != "code"):
        return None
    return (KINDS[kind], ALIGNMENTS[exponent], mark == 1)


def effect_word(takes, leaves):
    return takes * 4 + leaves


def read_effect(word):
    """(takes, leaves) of a word, or None."""
    return (word // 4, word % 4) if word // 4 <= 2 and word % 4 <= 2 else None


def symbol_words(section):
    """The words of the symbols of a section, a list."""
    words = []
    for name, place, binding in section.symbols:
        words.extend(name_words(name))
        words.extend([place, BINDINGS.index(binding)])
    return words


def export_words(section):
    """The words of the exports of a section, a list."""
    words = []
    for name, takes, leaves in section.exports:
        words.extend(name_words(name))
        words.append(effect_word(takes, leaves))
    return words
