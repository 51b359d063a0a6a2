"""The program that is picked for a script from units and archives."""

from romwright.joining import bound_entry, bound_section, cells_of, check_twice, exports_of, global_names, Program
from romwright.joining import target_of, wants_of
from romwright.order import ascending, least_of
from romwright.plain import BadName, is_name, NoName, NoSection, TooMany, Twice, Unfit, Unplaced
from romwright.script import fits, Free, Part
from romwright.units import Section, Unit
from romwright.wanted import chains_of, Library, Meanings, roots_of, wanted_after

HOLDS_ROM = ("code", "const")
HOLDS_ZERO = ("zero",)
HOLDS_ALL = ("code", "const", "data", "zero", "kept")
HOLDS_PART = ("code", "const", "data", "zero")


class Archive:
    """Units of which a program takes what it wants."""

    def __init__(self, name, units):
        if not is_name(name):
            raise BadName(name)
        if len(units) > 8:
            raise TooMany(8)
        check_twice([unit.name for unit in units])
        self.name = name
        self.units = tuple(units)

    def __contains__(self, x):
        names = [symbol[0] for unit in self.units for section in unit.sections
                 for symbol in section.symbols if symbol[2] != "local"]
        return x in names

    def __iter__(self):
        return iter(self.units)


class Picked:
    """A program with the places of its sections in a script."""

    def __init__(self, script, library, roots, after):
        order = [number for _, number in ascending([(library.owners[number], number) for number in after])]
        check_sizes(library, order)
        self.script = script
        self.where = places_of(script, library, order)
        self.program = program_of(script, library, order, self.where)
        self.dead = tuple(ascending([library.titles[number] for number in range(library.own) if number not in after]))
        taken = [library.owners[number] for number in order if number >= library.own]
        self.taken = tuple(sorted(set(taken)))
        self.chains = chains_of(library, roots, after)
        self.units = units_of(library, order)
        # What each name means from outside: (number, place), with None for a section that is not in the program.
        meanings = Meanings(library, order)
        self.meant = {name: meanings.outside(name) for name in library.names_outside()}

    def why(self, name):
        if name not in self.chains:
            raise NoSection(name)
        return self.chains[name]

    def in_place(self, name):
        if name not in [place.name for place in self.script.places]:
            raise NoName(name)
        rows = []
        for number, place in enumerate(self.where):
            if place == name:
                section = self.program.sections[number]
                rows.append((pattern_of(self.script[name], section.name, section.kind), number))
        return tuple([number for _, number in ascending(rows)])

    def kept_units(self):
        return list(self.units)


def pick(script, units, archives=()):
    """The program of all that is wanted."""
    if len(units) > 12:
        raise TooMany(12)
    if len(archives) > 4:
        raise TooMany(4)
    check_twice([unit.name for unit in units] + [unit.name for archive in archives for unit in archive.units])
    check_twice(global_names(units))
    library = Library(units, archives)
    entry = target_of(library.outside(script.entry), "go", script.entry, library.kinds)
    roots = roots_of(library, script, entry[0])
    return Picked(script, library, roots, wanted_after(library, roots))


def check_sizes(library, order):
    """Raises an error for too many sections or units, and for kept cells that are hidden."""
    if len(order) > 40:
        raise TooMany(40)
    if len(set([library.owners[number] for number in order])) > 12:
        raise TooMany(12)
    hidden = [symbol[0] for number in order if library.kinds[number] == "kept"
              for symbol in library.rows[number].symbols if library.is_hidden(number, symbol)]
    if len(hidden) > 0:
        raise Twice(least_of(hidden))


def pattern_of(place, name, kind):
    """The number of the first pattern of a place that a section fits, or None."""
    for number, pattern in enumerate(place.take):
        if fits(pattern, name, kind):
            return number
    return None


def places_of(script, library, order):
    """The names of the places of the sections, a tuple."""
    names = []
    for number in order:
        title, kind = library.titles[number], library.kinds[number]
        places = [place for place in script.places if pattern_of(place, title, kind) is not None]
        if len(places) == 0:
            raise Unplaced(title)
        if kind not in kinds_held(script, places[0]):
            raise Unfit(title)
        names.append(places[0].name)
    return tuple(names)


def kinds_held(script, place):
    """The kinds of sections that a place holds."""
    if isinstance(place, Part):
        return HOLDS_PART
    if isinstance(place, Free) or script[place.region].kind == "rom":
        return HOLDS_ROM
    return HOLDS_ZERO if place.load is None else HOLDS_ALL


def program_of(script, library, order, where):
    """The program of these sections, in order."""
    meanings = Meanings(library, order)
    sections = [library.rows[number] for number in order]
    kinds = [section.kind for section in sections]
    wants = wants_of(sections)
    bounds = [bound_section(library.owners[number], library.rows[number], meanings, kinds, wants)
              for number in order]
    entry = bound_entry(script.entry, meanings, kinds)
    parts = [part_of(script[name]) for name in where]
    return Program(bounds, entry, exports_of(sections, meanings), wants, cells_of(sections, meanings), parts)


def part_of(place):
    return (place.group, place.part) if isinstance(place, Part) else None


def units_of(library, order):
    """The units of these sections, ascending by name, without what is hidden."""
    rows = {}
    for number in order:
        rows.setdefault(library.owners[number], []).append(seen_section(library, number))
    return tuple([Unit(owner, rows[owner]) for owner in rows])


def seen_section(library, number):
    """A section without its hidden symbols and their exports."""
    section = library.rows[number]
    symbols = [symbol for symbol in section.symbols if not library.is_hidden(number, symbol)]
    names = [symbol[0] for symbol in symbols]
    exports = [export for export in section.exports if export[0] in names]
    return Section(section.name, section.kind, section.body, align=section.align, fixed=section.fixed,
                   symbols=symbols, exports=exports)


def sections_of(picked):
    """The sections of the kept units, in the order of the program."""
    return [section for unit in picked.units for section in unit.sections]
