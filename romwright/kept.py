"""Records that are kept while programs are run, and the words that kept cells have at a start."""

from romwright.named import Lone
from romwright.plain import BadName, BadWord, Full, is_name, is_word, NoName

MOST_NAMES = 24


class Book:
    """A record that is kept while programs are run."""

    def __init__(self, record=None):
        self.record = {}
        if record is not None:
            self.record = record_with({}, [(name, record[name]) for name in record])

    def __getitem__(self, at):
        if at not in self.record:
            raise NoName(at)
        return self.record[at]

    def __contains__(self, x):
        return x in self.record

    def __iter__(self):
        raise TypeError("a book is not iterated over")

    def __len__(self):
        return len(self.record)

    @property
    def kept(self):
        return {name: self.record[name] for name in self.record}

    @kept.setter
    def kept(self, value):
        self.record = record_with({}, [(name, value[name]) for name in value])

    def put(self, *cells, **words):
        pairs = list(cells) + [(name, words[name]) for name in words]
        self.record = record_with(self.record, pairs)
        return len(self.record)

    def play(self, program, events):
        device = Lone(program, self.record)
        told = [device.meet(event) for event in events]
        self.record = {name: device.record[name] for name in device.record}
        return told


def record_with(record, pairs):
    """A copy of a record with these pairs, if they are right and there is room for them."""
    filled = {name: record[name] for name in record}
    for name, word in pairs:
        if not is_name(name):
            raise BadName(name)
        if not is_word(word):
            raise BadWord(word)
        filled[name] = word
    if len(filled) > MOST_NAMES:
        raise Full(MOST_NAMES)
    return filled


def set_kept(book, words):
    """Gives a book another record."""
    book.kept = words


def at_start(program, record):
    """The words of a program's kept cells at a start, a dict by their names."""
    return {name: record.get(name, program.sections[number].body[place]) for name, number, place in program.cells}
