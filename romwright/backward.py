"""Contents read back, section by section, with what the map tells of them."""

from romwright.coding import first_part, HOP, op_of, WITH_WORD
from romwright.items import BRANCHES
from romwright.plain import BadContent, BadItem, BadMap, RomError
from romwright.units import Section, Unit


class Rows:
    """The words of a content, by their addresses."""

    def __init__(self, home, content):
        self.first = home + 16
        self.content = content

    def word_at(self, address):
        if not 0 <= address - self.first < len(self.content):
            raise BadContent(address)
        return self.content[address - self.first]


class Found:
    """A section that was read back, its entry in the map, and the offsets of its items with the end of the last one."""

    def __init__(self, entry, items, steps):
        self.entry = entry
        self.steps = tuple(steps)
        self.section = section_back(entry, items, steps)


def found_in(rows, told):
    """All sections of a map, a list of what was found."""
    found = []
    units = {}
    for entry in told.sections:
        if entry.part > len(told.parts):
            raise BadMap(entry.begin)
        each = found_at(rows, told, entry)
        found.append(each)
        # A unit must keep its rules with each section that it gets.
        name = entry.name.split(".")[0]
        units[name] = units.get(name, []) + [each.section]
        unit_back(name, units[name], entry)
    return found


def found_at(rows, told, entry):
    """A section that lies where its entry tells."""
    at = {place: (name, k) for place, name, k in entry.references}
    if entry.kind == "code":
        items, steps = code_back(rows, told, entry, at)
        check_veneers(rows, entry, steps[-1])
    else:
        items, steps = values_back(rows, entry, at), list(range(entry.count + 1))
    known = [place for place, item in enumerate(items) if refers(item)]
    if known != [place for place, _, _ in entry.references]:
        raise BadMap(entry.begin)
    return Found(entry, items, steps)


def refers(item):
    return isinstance(item, tuple) and item[0] in ("name", "at", "go", "unless", "call", "bring")


def values_back(rows, entry, at):
    """The items of a section that is not code."""
    if entry.size != entry.count:
        raise BadMap(entry.begin)
    items = []
    for place in range(entry.count):
        # Zeros lie in the content only where they are copied.
        word = rows.word_at(entry.load + place) if in_content(entry) else 0
        if entry.kind == "zero":
            items.append(0)
        else:
            items.append(("at",) + at[place] if place in at else word)
    return items


def in_content(entry):
    """Whether the words of a section lie in the content."""
    return entry.kind != "zero" or entry.load != entry.run


def code_back(rows, told, entry, at):
    """The instructions of a section, and their offsets with the end of the last one."""
    items, steps = [], [0]
    for place in range(entry.count):
        address = entry.load + steps[-1]
        item, size = instruction_back(rows, told, address, at.get(place))
        if steps[-1] + size > entry.size:
            raise BadContent(address)
        items.append(item)
        steps.append(steps[-1] + size)
    return items, steps


def instruction_back(rows, told, address, reference):
    """(instruction, number of words) at an address; the reference is (name, k) or None."""
    first = first_part(rows.word_at(address))
    if first is None or first[0] == "hop":
        raise BadContent(address)
    op = op_of(first[0])
    size = 2 if first[0] in WITH_WORD else 1
    operand = rows.word_at(address + 1) if size == 2 else None
    if (op == "far" and operand >= len(told.wants)) or (op == "bring" and operand > len(told.parts)):
        raise BadContent(address)
    if op == "far":
        return ("far",) + told.wants[operand], size
    if op == "push":
        return (("push", operand) if reference is None else ("name",) + reference), size
    if op in BRANCHES or op == "bring":
        if reference is None:
            raise BadContent(address)
        return (op, reference[0]), size
    return (op,), size


def check_veneers(rows, entry, step):
    """What lies behind the instructions of a section must be veneers."""
    while step < entry.size:
        if rows.word_at(entry.load + step) != HOP or not entry.fixed:
            raise BadContent(entry.load + step)
        rows.word_at(entry.load + step + 1)
        step += 2


def section_back(entry, items, steps):
    """The section of these items, which must keep the rules of sections."""
    try:
        return Section(entry.name.split(".")[1], entry.kind, items, align=entry.align, fixed=entry.fixed,
                       symbols=entry.symbols, exports=entry.exports)
    except BadItem as e:
        # Only the last instruction can be wrong.
        if e.place < len(items):
            raise BadContent(entry.load + steps[e.place])
        raise BadMap(entry.begin)
    except RomError:
        raise BadMap(entry.begin)


def unit_back(name, sections, entry):
    """The unit of these sections, which must keep the rules of units."""
    try:
        return Unit(name, sections)
    except RomError:
        raise BadMap(entry.begin)
