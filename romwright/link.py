"""Laid programs made to words: contents, setups and maps."""

from romwright.items import BRANCHES, referred
from romwright.machine import code_words, Setup
from romwright.order import ascending, greatest_of
from romwright.plain import Astray, BLANK, name_words
from romwright.script import Part, Place
from romwright.wording import effect_word, export_words, kind_word, symbol_words

WRITABLE = ("data", "zero", "kept")


class Linked:
    """A linked program."""

    def __init__(self, laying):
        entry = laying.picked.program.entry
        self.laying = laying
        self.home = laying.home
        self.entry = laying.address(entry[0], entry[1])
        self.content = content_of(laying)
        self.map = map_words(laying)
        self.setup = setup_made(laying, self.content, self.entry)

    def __getitem__(self, at):
        if not 0 <= at - self.home - 16 < len(self.content):
            raise Astray(at)
        return self.content[at - self.home - 16]

    def __contains__(self, x):
        return 0 <= x - self.home - 16 < len(self.content)

    def __iter__(self):
        raise TypeError("a linked program is not iterated over")

    def __len__(self):
        return len(self.content)

    def __eq__(self, other):
        return isinstance(other, Linked) and linked_key(self) == linked_key(other)


def linked_key(linked):
    """All that two equal linked programs have in common."""
    return (linked.home, linked.entry, linked.content, linked.map)


def link(laying):
    """The linked program of a laying."""
    return Linked(laying)


def bring_number(picked, number):
    """The number in bring of the part that a section belongs to, 0 for none."""
    parts = [place.name for place in picked.script.places if isinstance(place, Part)]
    name = picked.where[number]
    return parts.index(name) + 1 if name in parts else 0


def linked_words(laying, number):
    """The words of a section with its veneers, a tuple."""
    words = []
    for row in item_words_of(laying, number) + veneer_words(laying, number):
        words.extend(row)
    return tuple(words)


def item_words_of(laying, number):
    """The words of each item of a section, a list."""
    section = laying.picked.program.sections[number]
    rows = []
    for place, item in enumerate(section.body):
        if isinstance(item, int):
            rows.append((item,))
        elif section.kind != "code":
            rows.append((value_at(laying, item),))
        elif item[0] in BRANCHES:
            rows.append(branch_words(laying, number, place, item))
        else:
            rows.append(plain_words(laying, item))
    return rows


def veneer_words(laying, number):
    """The words of each veneer of a section, a list."""
    return [code_words("hop", laying.address(target[0], target[1])) for target in veneers_in(laying, number)]


def value_at(laying, item):
    """The address at run that a `name` or an `at` means."""
    return (laying.address(item[1], 0) + item[2]) % 65536


def plain_words(laying, item):
    """The words of an instruction that is no branch."""
    if item[0] == "name":
        return code_words("push", value_at(laying, item))
    if item[0] == "bring":
        return code_words("bring", bring_number(laying.picked, item[1]))
    if len(item) == 2:
        return code_words(item[0], item[1])
    return code_words(item[0])


def shape_around(laying, number):
    """The shape of the place in which a section lies."""
    return laying.frame.shapes[laying.picked.where[number]]


def veneers_in(laying, number):
    """The targets of the veneers of a section."""
    shape = shape_around(laying, number)
    return shape.veneers[shape.sections.index(number)]


def branch_words(laying, number, place, item):
    """The words of a branch, in the form that it has."""
    section = laying.picked.program.sections[number]
    target = laying.address(item[1], item[2])
    if (number, place) in shape_around(laying, number).rounds:
        if not section.fixed:
            return code_words(f"{item[0]} wide", target)
        # Behind the instructions stand the veneers.
        target = laying.address(number, len(section.body)) + 2 * veneers_in(laying, number).index(item[1:])
    return code_words(f"{item[0]} short", target - laying.address(number, place) - 1)


def lies_in_content(script, place):
    """Whether what a place holds has its words in a rom region."""
    return not isinstance(place, Place) or place.load is not None or script[place.region].kind == "rom"


def runs_in_ram(script, place):
    if isinstance(place, Place):
        return script[place.region].kind == "ram"
    return isinstance(place, Part)


def content_of(laying):
    """The content, a tuple."""
    script = laying.picked.script
    begin = laying.home + 16
    places = [place for place in script.places if lies_in_content(script, place) and laying.size_of(place.name) > 0]
    end = greatest_of([begin] + [laying.load_of(place.name) + laying.size_of(place.name) for place in places])
    words = [BLANK] * (end - begin)
    for place in places:
        at = laying.load_of(place.name) - begin
        size = laying.size_of(place.name)
        words[at:at + size] = [place.fill] * size
    for first, row in rows_in_content(laying):
        words[first - begin:first - begin + len(row)] = list(row)
    return tuple(words)


def rows_in_content(laying):
    """(address at load, words) of each section that lies in the content, in the order of the program."""
    script = laying.picked.script
    rows = []
    for number, name in enumerate(laying.picked.where):
        if lies_in_content(script, script[name]):
            rows.append((laying.at_load(number), linked_words(laying, number)))
    return rows


def stretches(laying):
    """(first address, end, name) of each section with words, as they lie in the content, a list."""
    script = laying.picked.script
    rows = []
    for number, name in enumerate(laying.picked.where):
        first, size = laying.at_load(number), section_size(laying, number)
        if lies_in_content(script, script[name]) and size > 0:
            rows.append((first, first + size, laying.picked.program.sections[number].name))
    return ascending(rows)


def section_size(laying, number):
    """The number of words of a section, with veneers."""
    shape = shape_around(laying, number)
    return shape.sizes[shape.sections.index(number)]


def setup_made(laying, content, entry):
    """The setup of a laying."""
    picked = laying.picked
    rows = [(laying.home + 16, content, False)]
    parts = [[] for place in picked.script.places if isinstance(place, Part)]
    for number, section in enumerate(picked.program.sections):
        if not runs_in_ram(picked.script, picked.script[picked.where[number]]) or section_size(laying, number) == 0:
            continue
        row = (laying.address(number, 0), linked_words(laying, number), section.kind in WRITABLE)
        part = bring_number(picked, number)
        if part == 0:
            rows.append(row)
        else:
            parts[part - 1].append(row)
    groups = [place.group for place in picked.script.places if isinstance(place, Part)]
    exports = [(name, takes, leaves, laying.address(number, place))
               for name, takes, leaves, number, place in picked.program.exports]
    cells = [(name, laying.address(number, place)) for name, number, place in picked.program.cells]
    return Setup(rows, entry, exports=exports, wants=picked.program.wants, cells=cells,
                 parts=list(zip(groups, parts)))


def map_words(laying):
    """The map, a tuple."""
    picked = laying.picked
    words = [len(picked.program)]
    number = 0
    for unit in picked.kept_units():
        for section in unit.sections:
            words.extend(name_words(unit.name))
            words.extend(entry_words(laying, number, section))
            number += 1
    words.append(len(picked.program.wants))
    for peer, name, takes, leaves in picked.program.wants:
        words.extend(name_words(peer) + name_words(name))
        words.append(effect_word(takes, leaves))
    parts = [place for place in picked.script.places if isinstance(place, Part)]
    words.append(len(parts))
    for part in parts:
        words.extend([part.group, laying.load_of(part.name), laying.start_of(part.name), laying.size_of(part.name)])
    return tuple(words)


def entry_words(laying, number, section):
    """The words of a section in the map, behind the unit's name."""
    words = list(name_words(section.name))
    words.extend([kind_word(section), laying.address(number, 0), laying.at_load(number), len(section.body)])
    words.extend([section_size(laying, number), bring_number(laying.picked, number)])
    references = [(place, item) for place, item in enumerate(section.body) if referred(item) is not None]
    words.extend([len(section.symbols), len(section.exports), len(references)])
    words.extend(symbol_words(section) + export_words(section))
    for place, item in references:
        words.append(place)
        words.extend(name_words(item[1]))
        words.append(item[2] if len(item) == 3 else 0)
    return words
