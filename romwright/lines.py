"""Words of lines: how integers, names and instructions are written and read."""

from romwright.items import is_instruction
from romwright.plain import is_name, is_word

DECIMALS = "0123456789"


def is_decimal(word):
    """Whether this is an integer from 0 on, as lines have it."""
    if len(word) == 0 or (word[0] == "0" and len(word) > 1):
        return False
    return all([sign in DECIMALS for sign in word])


def decimal(word):
    """The integer of a decimal word; of any length, which int does not promise."""
    number = 0
    for sign in word:
        number = number * 10 + DECIMALS.find(sign)
    return number


def word_of(text):
    """The word (an integer) that is written here, or None."""
    if len(text) > 5 or not is_decimal(text):
        return None
    number = decimal(text)
    return number if is_word(number) else None


def item_line(item):
    """The line of an instruction, or of an item of a section that is neither code nor zero."""
    if isinstance(item, int):
        return f"word {item}"
    return " ".join([str(part) for part in item])


def operand_of(text):
    """A part of an instruction: an integer where it looks like one, otherwise the text."""
    number = word_of(text)
    return text if number is None else number


def read_instruction(words):
    """The instruction of a line's words, or None."""
    item = (words[0],) + tuple([operand_of(text) for text in words[1:]])
    return item if is_instruction(item) else None


def read_data_item(words):
    """The item of the lines of const and data sections, or None."""
    if words[0] == "word" and len(words) == 2:
        return word_of(words[1])
    if words[0] == "at" and len(words) == 3 and is_name(words[1]):
        k = word_of(words[2])
        return None if k is None else ("at", words[1], k)
    return None
