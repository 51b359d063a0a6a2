"""Maps of linked programs, and contents that are read back with them."""

from romwright.backward import found_in, in_content, Rows
from romwright.lines import item_line
from romwright.link import item_words_of, lies_in_content, veneer_words, veneers_in, WRITABLE
from romwright.machine import Setup
from romwright.order import ascending
from romwright.pick import sections_of
from romwright.plain import BadMap
from romwright.units import Unit
from romwright.wording import Misplaced, WordReader


class MapEntry:
    """A section in a map, taken from its words."""

    def __init__(self, reader):
        # The place of the first of its words.
        self.begin = reader.at
        unit, section = reader.take_name(), reader.take_name()
        self.name = f"{unit}.{section}"
        self.kind, self.align, self.fixed = reader.take_kind()
        self.run = reader.take_word()
        self.load = reader.take_word()
        self.count = reader.take_word()
        self.size = reader.take_word()
        self.part = reader.take_word()
        symbols, exports, references = reader.take_count(), reader.take_count(), reader.take_count()
        self.symbols = tuple([reader.take_symbol() for _ in range(symbols)])
        self.exports = tuple([reader.take_export() for _ in range(exports)])
        self.references = tuple([taken_reference(reader) for _ in range(references)])


class Map:
    """A map, taken from its words."""

    def __init__(self, reader):
        sections = reader.take_count()
        self.sections = tuple([MapEntry(reader) for _ in range(sections)])
        wants = reader.take_count()
        self.wants = tuple([taken_want(reader) for _ in range(wants)])
        parts = reader.take_count()
        self.parts = tuple([taken_part(reader) for _ in range(parts)])
        reader.finish()


def taken_reference(reader):
    """(place, name, k)."""
    place = reader.take_word()
    name = reader.take_name()
    return (place, name, reader.take_word())


def taken_want(reader):
    """(peer, name, takes, leaves)."""
    peer = reader.take_name()
    name = reader.take_name()
    return (peer, name) + reader.take_effect()


def taken_part(reader):
    """(group, load, run, size)."""
    return tuple([reader.take_word() for _ in range(4)])


def read_map(words):
    """The map of these words."""
    try:
        return Map(WordReader(words))
    except Misplaced as e:
        raise BadMap(e.place)


def listing(linked):
    """The lines of all instructions, items and veneers in the content, a list."""
    picked = linked.laying.picked
    rows = []
    for number, section in enumerate(sections_of(picked)):
        if lies_in_content(picked.script, picked.script[picked.where[number]]):
            rows.extend(listed_section(linked.laying, number, section))
    return [f"{address} {line}" for address, line in ascending(rows)]


def listed_section(laying, number, section):
    """(address, what follows in the line) of each instruction, item and veneer of a section."""
    program = laying.picked.program
    title = program.sections[number].name
    rows = []
    address = laying.at_load(number)
    for place, words in enumerate(item_words_of(laying, number)):
        rows.append((address, f"{joined_words(words)} {title} {place} {item_line(section.body[place])}"))
        address += len(words)
    for target, words in zip(veneers_in(laying, number), veneer_words(laying, number)):
        name = program.sections[target[0]].name
        rows.append((address, f"{joined_words(words)} {title} - hop {name} {target[1]}"))
        address += len(words)
    return rows


def joined_words(words):
    return ",".join([str(word) for word in words])


def read_back(home, content, words):
    """The units of a content and the words of its map, a list."""
    sections = {}
    for each in found_in(Rows(home, content), read_map(words)):
        sections.setdefault(each.entry.name.split(".")[0], []).append(each.section)
    return [Unit(name, sections[name]) for name in ascending(sections)]


def setup_of(home, content, words, entry):
    """The setup of a content with the words of its map."""
    told = read_map(words)
    found = found_in(Rows(home, content), told)
    stretches = [(home + 16, tuple(content), False)]
    parts = [[] for _ in told.parts]
    exports, cells = [], []
    for each in found:
        row = ram_stretch(home, content, each.entry)
        if row is not None and each.entry.part == 0:
            stretches.append(row)
        elif row is not None:
            parts[each.entry.part - 1].append(row)
        exports.extend(exports_back(each))
        if each.entry.kind == "kept":
            cells.extend([(name, each.entry.run + place) for name, place, _ in each.entry.symbols])
    groups = [part[0] for part in told.parts]
    return Setup(stretches, entry, exports=ascending(exports), wants=told.wants, cells=ascending(cells),
                 parts=list(zip(groups, parts)))


def ram_stretch(home, content, entry):
    """The stretch of a section with words that runs in a ram region, or None."""
    mark = entry.kind in WRITABLE
    if entry.size == 0:
        return None
    if not in_content(entry):
        return (entry.run, (0,) * entry.size, mark)
    if entry.load == entry.run:
        return None
    at = entry.load - home - 16
    return (entry.run, tuple(content[at:at + entry.size]), mark)


def exports_back(found):
    """(name, takes, leaves, address) of the exports of a section."""
    places = {name: place for name, place, _ in found.entry.symbols}
    return [(name, takes, leaves, found.entry.run + found.steps[places[name]])
            for name, takes, leaves in found.entry.exports]


def line_at(home, content, words, address):
    """(name of the section, place) of what begins at an address at run, or None."""
    return lines_at_run(home, content, words).get(address)


def lines_at_run(home, content, words):
    """A dict from each address at run where something begins to (name of the section, place)."""
    lines = {}
    for each in found_in(Rows(home, content), read_map(words)):
        for place, step in enumerate(each.steps[:-1]):
            lines.setdefault(each.entry.run + step, (each.entry.name, place))
    return lines
