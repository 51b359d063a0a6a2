"""What the names of units and archives mean, and which of their sections are wanted."""

from romwright.items import referred
from romwright.joining import can_lead, Names
from romwright.order import ascending, ordered
from romwright.plain import Missing, Unlike, Wanted
from romwright.script import fits


class Library:
    """All sections, those of the units ahead of those of each archive; within these, ascending by units."""

    def __init__(self, units, archives):
        self.owners = []
        self.rows = []
        self.sources = []
        self.inner = {}
        for group in [units] + [archive.units for archive in archives]:
            self.sources.append(self.add_units(group))
        self.titles = [f"{owner}.{section.name}" for owner, section in zip(self.owners, self.rows)]
        self.kinds = [section.kind for section in self.rows]
        # How many of the sections are those of the units.
        self.own = sum([len(unit) for unit in units])

    def add_units(self, units):
        """Adds the sections of units or of an archive; the names that they define."""
        names = Names()
        for unit in ordered(units, [unit.name for unit in units]):
            for section in unit.sections:
                names.add_section(unit.name, len(self.rows), section)
                self.rows.append(section)
                self.owners.append(unit.name)
        for key in names.local:
            self.inner[key] = names.local[key]
        return names

    def outside(self, name):
        """What the name means from outside, (number, place), or None."""
        for names in self.sources:
            target = names.outside(name)
            if target is not None:
                return target
        return None

    def inside(self, owner, name):
        """What the name means in a unit, or None."""
        if (owner, name) in self.inner:
            return self.inner[(owner, name)]
        return self.outside(name)

    def is_hidden(self, number, symbol):
        """Whether a symbol of a section is seen from outside, but not what its name means there."""
        return symbol[2] != "local" and self.outside(symbol[0]) != (number, symbol[1])

    def names_outside(self):
        """All names that mean something from outside, ascending."""
        names = [name for source in self.sources for table in (source.seen, source.weak) for name in table]
        return sorted(set(names))


class Meanings:
    """What names mean, with the numbers of the sections in the program; None for those that are not in it."""

    def __init__(self, library, order):
        self.library = library
        self.numbers = {number: at for at, number in enumerate(order)}

    def outside(self, name):
        return self.renumbered(self.library.outside(name))

    def inside(self, owner, name):
        return self.renumbered(self.library.inside(owner, name))

    def renumbered(self, target):
        return None if target is None else (self.numbers.get(target[0]), target[1])


def roots_of(library, script, entry):
    """The numbers of the roots, in order, each once; entry is the section of the entry."""
    roots = {entry: True}
    own = range(library.own)
    for pattern in script.keeps:
        for number in own:
            if fits(pattern, library.titles[number], library.kinds[number]):
                roots[number] = True
    exports = [(export[0], number) for number in own for export in library.rows[number].exports]
    for _, number in ascending(exports):
        roots[number] = True
    return list(roots)


def wanted_after(library, roots):
    """A dict from each wanted section, as they are found, to the sections that it refers to."""
    after = {}
    queue = list(roots)
    known = {number: True for number in queue}
    at = 0
    while at < len(queue):
        number = queue[at]
        targets = targets_of(library, number)
        for target in targets:
            if target not in known:
                known[target] = True
                queue.append(target)
        after[number] = targets
        at += 1
    return after


def targets_of(library, number):
    """The sections to which the references of a section lead, in order."""
    targets = []
    for item in library.rows[number].body:
        name = referred(item)
        if name is None:
            continue
        target = library.inside(library.owners[number], name)
        if target is None:
            raise Missing(name) from Wanted(library.titles[number])
        if not can_lead(item[0], library.kinds[target[0]]):
            raise Unlike(name) from Wanted(library.titles[number])
        targets.append(target[0])
    return targets


def chains_of(library, roots, after):
    """A dict from the name of each wanted section to its chain."""
    chains = {}
    level = {number: (library.titles[number],) for number in roots}
    while len(level) > 0:
        for number in level:
            chains[library.titles[number]] = level[number]
        longer = {}
        for number in list(level):
            for target in after[number]:
                chain = level[number] + (library.titles[target],)
                if library.titles[target] not in chains and (target not in longer or chain < longer[target]):
                    longer[target] = chain
        level = longer
    return chains
