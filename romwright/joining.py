"""Units joined to a program, with all references bound."""

from romwright.items import BRANCHES, words_of
from romwright.order import ascending, ordered
from romwright.plain import Missing, NoSection, TooMany, Twice, Unlike


class Bound:
    """A section of a program."""

    def __init__(self, name, kind, body, align, fixed):
        self.name = name
        self.kind = kind
        self.body = tuple(body)
        self.align = align
        self.fixed = fixed
        self.size = words_of(kind, self.body)

    def __eq__(self, other):
        return isinstance(other, Bound) and bound_key(self) == bound_key(other)


class Program:
    def __init__(self, sections, entry, exports, wants, cells, parts):
        self.sections = tuple(sections)
        self.entry = entry
        self.exports = tuple(ascending(exports))
        self.offers = tuple([export[:3] for export in self.exports])
        self.wants = tuple(wants)
        self.cells = tuple(ascending(cells))
        self.parts = tuple(parts)

    def __getitem__(self, at):
        for number, section in enumerate(self.sections):
            if section.name == at:
                return number
        raise NoSection(at)

    def __contains__(self, x):
        return x in [export[0] for export in self.exports]

    def __iter__(self):
        return iter(self.sections)

    def __len__(self):
        return len(self.sections)

    def __eq__(self, other):
        return isinstance(other, Program) and program_key(self) == program_key(other)


class Names:
    """What the names of units mean: each symbol as (number of the section, place)."""

    def __init__(self):
        self.local = {}
        self.seen = {}
        self.weak = {}

    def add_section(self, unit, number, section):
        """Adds the symbols of a section; units come ascending by name."""
        for name, place, binding in section.symbols:
            if binding == "local":
                self.local[(unit, name)] = (number, place)
            elif binding == "global":
                self.seen.setdefault(name, (number, place))
            else:
                self.weak.setdefault(name, (number, place))

    def outside(self, name):
        """What the name means from outside, or None."""
        if name in self.seen:
            return self.seen[name]
        return self.weak.get(name)

    def inside(self, unit, name):
        """What the name means in a unit, or None."""
        if (unit, name) in self.local:
            return self.local[(unit, name)]
        return self.outside(name)


def bound_key(section):
    """All that two equal sections have in common."""
    return (section.name, section.kind, section.body, section.align, section.fixed)


def program_key(program):
    """All that two equal programs have in common, besides what follows from it."""
    return (program.sections, program.entry, program.exports, program.wants, program.cells, program.parts)


def joined(units, entry):
    """The program of all sections of the units."""
    if len(units) > 12:
        raise TooMany(12)
    check_twice([unit.name for unit in units])
    check_twice(global_names(units))
    rows = []
    for unit in ordered(units, [unit.name for unit in units]):
        rows.extend([(unit.name, section) for section in unit.sections])
    if len(rows) > 40:
        raise TooMany(40)
    names = Names()
    for number, (unit, section) in enumerate(rows):
        names.add_section(unit, number, section)
    kinds = [section.kind for _, section in rows]
    wants = wants_of([section for _, section in rows])
    bounds = [bound_section(unit, section, names, kinds, wants) for unit, section in rows]
    place = bound_entry(entry, names, kinds)
    exports = exports_of([section for _, section in rows], names)
    cells = cells_of([section for _, section in rows], names)
    return Program(bounds, place, exports, wants, cells, [None] * len(rows))


def check_twice(names):
    """Raises the error for the least name that comes twice."""
    names = ascending(names)
    for k in range(1, len(names)):
        if names[k] == names[k - 1]:
            raise Twice(names[k])


def global_names(units):
    names = []
    for unit in units:
        for section in unit.sections:
            names.extend([symbol[0] for symbol in section.symbols if symbol[2] == "global"])
    return names


def wants_of(sections):
    """The wants of these sections, ascending, each once."""
    wants = {}
    for section in sections:
        for item in section.body:
            if section.kind == "code" and item[0] == "far":
                wants[item[1:]] = True
    return ascending(wants)


def bound_section(unit, section, names, kinds, wants):
    body = [bound_item(unit, item, names, kinds, wants) for item in section.body]
    return Bound(f"{unit}.{section.name}", section.kind, body, section.align, section.fixed)


def bound_item(unit, item, names, kinds, wants):
    """The item with its reference bound."""
    if isinstance(item, int):
        return item
    op = item[0]
    if op == "far":
        return ("far", wants.index(item[1:]))
    if op in BRANCHES or op in ("bring", "name", "at"):
        number, place = target_of(names.inside(unit, item[1]), op, item[1], kinds)
        if op == "bring":
            return ("bring", number)
        if op in BRANCHES:
            return (op, number, place)
        return (op, number, (place + item[2]) % 65536)
    return item


def target_of(target, op, name, kinds):
    """The target of a reference by this op, if it can lead there."""
    if target is None:
        raise Missing(name)
    if not can_lead(op, kinds[target[0]]):
        raise Unlike(name)
    return target


def can_lead(op, kind):
    """Whether a reference by this op can lead to a section of this kind."""
    return op == "bring" or (kind == "code") == (op in BRANCHES)


def bound_entry(name, names, kinds):
    # The entry must be code, as what a branch leads to.
    return target_of(names.outside(name), "go", name, kinds)


def exports_of(sections, names):
    """The exports of the sections that count: those of symbols that are not hidden."""
    exports = []
    for number, section in enumerate(sections):
        places = {symbol[0]: symbol[1] for symbol in section.symbols}
        for name, takes, leaves in section.exports:
            if names.outside(name) == (number, places[name]):
                exports.append((name, takes, leaves, number, places[name]))
    return exports


def cells_of(sections, names):
    """The kept cells of the sections."""
    cells = []
    for number, section in enumerate(sections):
        if section.kind == "kept":
            cells.extend([(name, number, place) for name, place, _ in section.symbols])
    return cells
