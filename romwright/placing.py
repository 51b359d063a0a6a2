"""Programs on placements."""

from romwright.items import BRANCHES, item_size
from romwright.machine import code_words, Setup
from romwright.named import Lone
from romwright.pairs import parting_pair
from romwright.plain import BadBases, NoHang, Overlays


def check_placement(program, bases):
    """Raises an error if these are not the bases of a placement."""
    check_no_overlays(program)
    if len(bases) != len(program.sections):
        raise BadBases(len(program.sections))
    for number, base in enumerate(bases):
        size = program.sections[number].size
        if not is_base(base, size):
            raise BadBases(number)
        for before in range(number):
            if share(bases[before], program.sections[before].size, base, size):
                raise BadBases(number)


def check_no_overlays(program):
    if any([part is not None for part in program.parts]):
        raise Overlays(0)


def is_base(thing, size):
    return isinstance(thing, int) and not isinstance(thing, bool) and 1 <= thing <= 65535 - size


def share(first, size, second, other):
    """Whether sections of these sizes at these bases share an address."""
    return size > 0 and other > 0 and first < second + other and second < first + size


def placed(program, bases):
    """The setup of a program on a placement."""
    check_placement(program, bases)
    stretches = []
    for number, section in enumerate(program.sections):
        if section.size > 0:
            mark = section.kind in ("data", "zero", "kept")
            stretches.append((bases[number], section_words(section, program, bases), mark))
    exports = [(name, takes, leaves, address_of(program, bases, number, place))
               for name, takes, leaves, number, place in program.exports]
    cells = [(name, bases[number] + place) for name, number, place in program.cells]
    entry = address_of(program, bases, program.entry[0], program.entry[1])
    return Setup(stretches, entry, exports=exports, wants=program.wants, cells=cells)


def address_of(program, bases, number, place):
    """The address of an instruction."""
    section = program.sections[number]
    return bases[number] + sum([item_size("code", item) for item in section.body[:place]])


def section_words(section, program, bases):
    """The words of a section on a placement."""
    words = []
    for item in section.body:
        if isinstance(item, int):
            words.append(item)
        elif section.kind == "code":
            words.extend(item_words(item, program, bases))
        else:
            words.append((bases[item[1]] + item[2]) % 65536)
    return words


def item_words(item, program, bases):
    """The words of an instruction on a placement, branches wide."""
    op = item[0]
    if op in BRANCHES:
        return code_words(f"{op} wide", address_of(program, bases, item[1], item[2]))
    if op == "name":
        return code_words("push", (bases[item[1]] + item[2]) % 65536)
    if op == "bring":
        # There are no overlays on a placement.
        return code_words("bring", 0)
    if len(item) == 2:
        return code_words(op, item[1])
    return code_words(op)


def placed_at(program, bases, address):
    """(number, place) of the instruction that begins at an address, or None."""
    for number, section in enumerate(program.sections):
        if section.kind == "code" and bases[number] <= address < bases[number] + section.size:
            at = bases[number]
            for place, item in enumerate(section.body):
                if at == address:
                    return (number, place)
                at += item_size("code", item)
    return None


def parting(program, events, record=None):
    """Two placements on which the machines part where the lone device hangs."""
    check_no_overlays(program)
    device = Lone(program, record)
    for event in events:
        if device.kind == "hangs":
            raise NoHang(len(events))
        device.meet(event)
    if device.kind != "hangs":
        raise NoHang(len(events))
    return parting_pair(program, device.active)
