"""Words as texts in which rows of words are found; each word has a sign ahead of it, so none is found amid others."""

WIDTH = 5


def text_to_find(words):
    return "".join([f",{word:04x}" for word in words])


def part_of_text(text, place, count):
    """The text of so many words from a place on."""
    return text[WIDTH * place:WIDTH * (place + count)]
