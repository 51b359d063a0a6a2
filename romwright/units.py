"""Sections and the units that are made of them."""

from romwright.items import is_count, is_item, last_place, LAST_OPS, most_items, referred, words_of
from romwright.order import ascending, least_of, ordered
from romwright.plain import BadAlign, BadCell, BadExport, BadFixed, BadItem, BadKind, BadName, BadSymbol, NoSection
from romwright.plain import is_name, TooMany, Twice

KINDS = ("code", "const", "data", "zero", "kept")
ALIGNMENTS = (1, 2, 4, 8, 16)
BINDINGS = ("local", "global", "weak")
OPS = {
    "push": (0, 1), "name": (0, 1), "dup": (1, 2), "drop": (1, 0), "swap": (2, 2), "over": (2, 3),
    "add": (2, 1), "sub": (2, 1), "mul": (2, 1), "less": (2, 1), "same": (2, 1), "load": (1, 1),
    "store": (2, 0), "go": (0, 0), "unless": (1, 0), "call": (0, 0), "ret": (0, 0), "out": (1, 0),
    "ask": (0, 1), "bring": (0, 0), "save": (0, 0), "confirm": (0, 0), "halt": (0, 0),
}


class Section:
    def __init__(self, name, kind, body, *, align=1, fixed=False, symbols=(), exports=()):
        check_head(name, kind, align, fixed)
        check_body(kind, fixed, body)
        check_symbols(kind, len(body), symbols)
        if kind == "kept":
            check_cells(len(body), symbols)
        check_exports(kind, symbols, exports)
        self.name = name
        self.kind = kind
        self.body = tuple(body)
        self.align = align
        self.fixed = fixed
        self.symbols = tuple(ordered(symbols, [(symbol[1], symbol[0]) for symbol in symbols]))
        self.exports = tuple(ascending(exports))
        self.size = words_of(kind, self.body)

    def __len__(self):
        return len(self.body)

    def __eq__(self, other):
        return isinstance(other, Section) and section_key(self) == section_key(other)


class Unit:
    def __init__(self, name, sections):
        if not is_name(name):
            raise BadName(name)
        if len(sections) > 8:
            raise TooMany(8)
        check_section_names(sections)
        check_symbol_names(sections)
        self.name = name
        self.sections = tuple(sections)

    def __getitem__(self, at):
        for section in self.sections:
            if section.name == at:
                return section
        raise NoSection(at)

    def __contains__(self, x):
        return section_of(self, x) is not None

    def __iter__(self):
        return iter(self.sections)

    def __len__(self):
        return len(self.sections)

    def __eq__(self, other):
        return isinstance(other, Unit) and self.name == other.name and self.sections == other.sections


def section_key(section):
    """All that two equal sections have in common."""
    head = (section.name, section.kind, section.align, section.fixed)
    return (head, section.body, section.symbols, section.exports)


def is_alignment(thing):
    return isinstance(thing, int) and not isinstance(thing, bool) and thing in ALIGNMENTS


def check_head(name, kind, align, fixed):
    if not is_name(name):
        raise BadName(name)
    if not isinstance(kind, str) or kind not in KINDS:
        raise BadKind(kind)
    if not is_alignment(align):
        raise BadAlign(align)
    if not isinstance(fixed, bool) or (fixed and kind != "code"):
        raise BadFixed(fixed)


def check_body(kind, fixed, body):
    limit = most_items(kind, fixed)
    if len(body) > limit:
        raise TooMany(limit)
    for place, item in enumerate(body):
        if not is_item(kind, item):
            raise BadItem(place)
    if kind == "code":
        if len(body) == 0:
            raise BadItem(0)
        if body[-1][0] not in LAST_OPS:
            raise BadItem(len(body) - 1)


def is_symbol(thing, most):
    """Whether this is a symbol with a place from 0 to the greatest one."""
    if not isinstance(thing, tuple) or len(thing) != 3 or not is_name(thing[0]):
        return False
    place = thing[1]
    if not isinstance(place, int) or isinstance(place, bool) or not 0 <= place <= most:
        return False
    return isinstance(thing[2], str) and thing[2] in BINDINGS


def check_symbols(kind, count, symbols):
    most = last_place(kind, count)
    before = {}
    for number, symbol in enumerate(symbols):
        if not is_symbol(symbol, most) or symbol[0] in before:
            raise BadSymbol(number)
        before[symbol[0]] = True


def check_cells(count, symbols):
    for place in range(count):
        bindings = [symbol[2] for symbol in symbols if symbol[1] == place]
        if bindings != ["global"]:
            raise BadCell(place)


def is_export(thing):
    return (isinstance(thing, tuple) and len(thing) == 3 and is_name(thing[0])
            and is_count(thing[1]) and is_count(thing[2]))


def check_exports(kind, symbols, exports):
    left = {}
    if kind == "code":
        left = {symbol[0]: True for symbol in symbols if symbol[2] == "global"}
    for number, export in enumerate(exports):
        if not is_export(export) or export[0] not in left:
            raise BadExport(number)
        # A second export of this name is wrong.
        del left[export[0]]


def check_section_names(sections):
    before = {}
    for section in sections:
        if section.name in before:
            raise Twice(section.name)
        before[section.name] = True


def check_symbol_names(sections):
    before = {}
    twice = []
    for section in sections:
        for symbol in section.symbols:
            if symbol[0] in before:
                twice.append(symbol[0])
            before[symbol[0]] = True
    if len(twice) > 0:
        raise Twice(least_of(twice))


def section_of(unit, name):
    """The section that defines a symbol of this name, or None."""
    for section in unit.sections:
        for symbol in section.symbols:
            if symbol[0] == name:
                return section
    return None


def references(section):
    """The names that the items of a section refer to, in order."""
    names = [referred(item) for item in section.body]
    return tuple([name for name in names if name is not None])
