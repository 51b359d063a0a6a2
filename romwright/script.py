"""Scripts, and the statements that they are made of."""

from romwright.exprs import write_expr
from romwright.plain import BadLine, NoName, TooMany
from romwright.rules import check_rules
from romwright.statements import kind_of, read_statement


class Statement:
    """A statement; each of its kinds tells its own line."""

    def line(self):
        raise TypeError("a statement without a kind has no line")

    def __eq__(self, other):
        return isinstance(other, Statement) and self.line() == other.line()


class Entry(Statement):
    def __init__(self, name):
        self.name = name

    def line(self):
        return f"entry {self.name}"

    def __eq__(self, other):
        return isinstance(other, Statement) and self.line() == other.line()


class Keep(Statement):
    def __init__(self, pattern):
        self.pattern = pattern

    def line(self):
        return f"keep {self.pattern}"

    def __eq__(self, other):
        return isinstance(other, Statement) and self.line() == other.line()


class Formula(Statement):
    """A statement with an expression, its tree."""

    def __eq__(self, other):
        return isinstance(other, Statement) and self.line() == other.line()


class Claim(Formula):
    def __init__(self, tree):
        self.tree = tree

    def line(self):
        return " ".join(["claim"] + write_expr(self.tree))

    def __eq__(self, other):
        return isinstance(other, Statement) and self.line() == other.line()


class Named(Statement):
    """A statement that gives something a name."""

    def __eq__(self, other):
        return isinstance(other, Statement) and self.line() == other.line()


class Region(Named):
    def __init__(self, name, kind, start, length):
        self.name = name
        self.kind = kind
        self.start = start
        self.length = length

    def line(self):
        return f"region {self.name} {self.kind} {self.start} {self.length}"

    def __eq__(self, other):
        return isinstance(other, Statement) and self.line() == other.line()


class Overlay(Named):
    def __init__(self, name, region, load, fill):
        self.name = name
        self.region = region
        self.load = load
        self.fill = fill

    def line(self):
        return f"overlay {self.name} in {self.region} load {self.load} fill {self.fill}"

    def __eq__(self, other):
        return isinstance(other, Statement) and self.line() == other.line()


class Let(Named, Formula):
    def __init__(self, name, tree):
        self.name = name
        self.tree = tree

    def line(self):
        return " ".join(["let", self.name, "be"] + write_expr(self.tree))

    def __eq__(self, other):
        return isinstance(other, Statement) and self.line() == other.line()


class Taking(Named):
    """A statement that takes sections by patterns."""

    def __eq__(self, other):
        return isinstance(other, Statement) and self.line() == other.line()


class Place(Taking):
    def __init__(self, name, region, load, align, fill, take):
        self.name = name
        self.region = region
        self.load = load
        self.align = align
        self.fill = fill
        self.take = take

    def line(self):
        regions = self.region if self.load is None else f"{self.region} load {self.load}"
        return f"place {self.name} in {regions} align {self.align} fill {self.fill} {taken(self.take)}"

    def __eq__(self, other):
        return isinstance(other, Statement) and self.line() == other.line()


class Free(Taking):
    def __init__(self, name, regions, align, fill, take):
        self.name = name
        self.regions = regions
        self.align = align
        self.fill = fill
        self.take = take

    def line(self):
        regions = " ".join(self.regions)
        return f"free {self.name} in {regions} align {self.align} fill {self.fill} {taken(self.take)}"

    def __eq__(self, other):
        return isinstance(other, Statement) and self.line() == other.line()


class Part(Taking):
    def __init__(self, name, align, fill, take, overlay, group, part):
        self.name = name
        self.align = align
        self.fill = fill
        self.take = take
        self.overlay = overlay
        self.group = group
        self.part = part

    def line(self):
        return f"part {self.name} align {self.align} {taken(self.take)}"

    def __eq__(self, other):
        return isinstance(other, Statement) and self.line() == other.line()


class Script:
    def __init__(self, lines):
        if len(lines) > 64:
            raise TooMany(64)
        rows = [read_statement(line) for line in lines]
        if None in rows:
            raise BadLine(rows.index(None))
        check_rules(rows)
        self.statements = made_of(rows)
        self.regions = tuple([each for each in self.statements if isinstance(each, Region)])
        self.places = tuple([each for each in self.statements if isinstance(each, Taking)])
        self.overlays = tuple([each for each in self.statements if isinstance(each, Overlay)])
        self.entry = [each.name for each in self.statements if isinstance(each, Entry)][0]
        self.keeps = tuple([each.pattern for each in self.statements if isinstance(each, Keep)])
        self.lets = {each.name: each.tree for each in self.statements if isinstance(each, Let)}
        self.claims = tuple([each.tree for each in self.statements if isinstance(each, Claim)])

    def __getitem__(self, at):
        for group in (self.regions, self.places, self.overlays):
            for each in group:
                if each.name == at:
                    return each
        raise NoName(at)

    def __contains__(self, x):
        names = [each.name for group in (self.regions, self.places, self.overlays) for each in group]
        return x in names

    def __iter__(self):
        return iter(self.statements)

    def lines(self):
        return [each.line() for each in self.statements]

    def extended(self, lines):
        return Script(self.lines() + list(lines))

    def __eq__(self, other):
        return isinstance(other, Script) and self.lines() == other.lines()


def taken(patterns):
    return " ".join(["take"] + list(patterns))


def made_of(rows):
    """The statements of rows that keep the rules, a tuple."""
    made = []
    overlay = None
    group = part = -1
    for row in rows:
        if row[0] == "overlay":
            overlay = Overlay(row[1], row[2], row[3], row[4])
            made.append(overlay)
            group += 1
            part = -1
        elif row[0] == "part":
            part += 1
            made.append(Part(row[1], row[2], overlay.fill, row[3], overlay.name, group, part))
        else:
            made.append(statement_of(row))
    return tuple(made)


def statement_of(row):
    """A statement that stands for itself."""
    word = row[0]
    if word == "region":
        return Region(row[1], row[2], row[3], row[4])
    if word == "place":
        return Place(row[1], row[2], row[3], row[4], row[5], row[6])
    if word == "free":
        return Free(row[1], row[2], row[3], row[4], row[5])
    if word == "let":
        return Let(row[1], row[2])
    if word == "claim":
        return Claim(row[1])
    return Entry(row[1]) if word == "entry" else Keep(row[1])


def fits(pattern, name, kind):
    """Whether a section `unit.section` of this kind fits a pattern."""
    unit, section = pattern.split(".")
    parts = name.split(".")
    if unit != "*" and unit != parts[0]:
        return False
    return section == "*" or section == parts[1] or kind_of(section) == kind
