"""Releases, and the turns that lead from one to another."""

from romwright.joining import check_twice
from romwright.order import ascending, ordered
from romwright.plain import BadBase, BadTurn, name_words, NoName
from romwright.units import Unit
from romwright.wholes import take_whole, whole_words
from romwright.wording import Misplaced, WordReader

MARKS = 4294967296


class Release:
    """The units of a release, ascending by name, without those that have no sections."""

    def __init__(self, units):
        check_twice([unit.name for unit in units])
        told = [unit for unit in units if len(unit) > 0]
        self.units = tuple(ordered(told, [unit.name for unit in told]))
        self.mark = mark_of(release_words(self.units))

    def as_words(self):
        return release_words(self.units)

    def __iter__(self):
        return iter(self.units)

    def __getitem__(self, at):
        for unit in self.units:
            if unit.name == at:
                return unit
        raise NoName(at)

    def __eq__(self, other):
        return isinstance(other, Release) and self.units == other.units

    def __sub__(self, other):
        if not isinstance(other, Release):
            return NotImplemented
        changes = changes_between(other.units, self.units)
        return Turn(other.mark, self.mark, changes, orders_between(other.units, self.units, changes))

    def __add__(self, other):
        if not isinstance(other, Turn):
            return NotImplemented
        if other.base != self.mark:
            raise BadBase(self.mark)
        return Release(turned_units(self.units, other))


class Change:
    """What a section becomes; None if it is gone."""

    def __init__(self, unit, name, section):
        self.unit = unit
        self.name = name
        self.section = section

    def __eq__(self, other):
        return isinstance(other, Change) and change_key(self) == change_key(other)


class Turn:
    """What leads from a release to another one."""

    def __init__(self, base, result, changes, orders):
        self.base = base
        self.result = result
        self.changes = tuple(ordered(changes, [(change.unit, change.name) for change in changes]))
        self.orders = tuple(ascending([(unit, tuple(names)) for unit, names in orders]))

    def __bool__(self):
        return bool(self.changes) or bool(self.orders)

    def __or__(self, other):
        if not isinstance(other, Turn):
            return NotImplemented
        if other.base != self.result:
            raise BadBase(self.result)
        changes = {(change.unit, change.name): change for change in self.changes + other.changes}
        orders = {unit: names for unit, names in self.orders + other.orders}
        return Turn(self.base, other.result, [changes[key] for key in changes],
                    [(unit, orders[unit]) for unit in orders])

    def __eq__(self, other):
        return isinstance(other, Turn) and turn_key(self) == turn_key(other)

    def as_words(self):
        words = [self.base // 65536, self.base % 65536, self.result // 65536, self.result % 65536, len(self.changes)]
        for change in self.changes:
            words.extend(change_words(change))
        words.append(len(self.orders))
        for unit, names in self.orders:
            words.extend(name_words(unit))
            words.append(len(names))
            for name in names:
                words.extend(name_words(name))
        return tuple(words)

    @classmethod
    def from_words(cls, words):
        base, result, changes, orders = turn_parts(words)
        return cls(base, result, changes, orders)


def change_key(change):
    """All that two equal changes have in common."""
    return (change.unit, change.name, change.section)


def turn_key(turn):
    """All that two equal turns have in common."""
    return (turn.base, turn.result, turn.changes, turn.orders)


def release_words(units):
    """The words of a release, a tuple."""
    words = []
    for unit in units:
        words.extend(name_words(unit.name))
        words.append(len(unit.sections))
        for section in unit.sections:
            words.extend(whole_words(section))
    return tuple(words)


def mark_of(words):
    return sum([(place + 1) * (word + 1) for place, word in enumerate(words)]) % MARKS


def changes_between(elder, newer):
    """The changes from the elder units to the newer ones, ascending, a list."""
    before = {(unit.name, section.name): section for unit in elder for section in unit.sections}
    behind = {(unit.name, section.name): section for unit in newer for section in unit.sections}
    return [Change(key[0], key[1], behind.get(key)) for key in sorted(set(list(before) + list(behind)))
            if key not in before or key not in behind or not before[key] == behind[key]]


def orders_between(elder, newer, changes):
    """The orders that go with these changes, ascending, a list."""
    before = {unit.name: tuple([section.name for section in unit.sections]) for unit in elder}
    behind = {unit.name: tuple([section.name for section in unit.sections]) for unit in newer}
    changed = {change.unit: True for change in changes}
    return [(name, behind.get(name, ())) for name in sorted(set(list(before) + list(behind)))
            if name in changed or before.get(name) != behind.get(name)]


def turned_units(units, turn):
    """The units with the changes of a turn, in its orders, a list."""
    rows = {unit.name: list(unit.sections) for unit in units}
    for change in turn.changes:
        rows[change.unit] = changed_sections(rows.get(change.unit, []), change)
    for name, names in turn.orders:
        rows[name] = ordered_sections(rows.get(name, []), names)
    return [Unit(name, rows[name]) for name in ascending(rows)]


def changed_sections(sections, change):
    if change.section is None:
        return [section for section in sections if section.name != change.name]
    if change.name in [section.name for section in sections]:
        return [change.section if section.name == change.name else section for section in sections]
    return list(sections) + [change.section]


def ordered_sections(sections, names):
    """The sections that are named, in this order, and then the others, as they stood."""
    named = [section for name in names for section in sections if section.name == name]
    return named + [section for section in sections if section.name not in names]


def change_words(change):
    """The words of a change, a list."""
    words = list(name_words(change.unit))
    if change.section is None:
        words.append(0)
        words.extend(name_words(change.name))
    else:
        words.append(1)
        words.extend(whole_words(change.section))
    return words


def turn_parts(words):
    """(base, result, changes, orders) of a turn's words."""
    reader = WordReader(words)
    try:
        base = take_mark(reader)
        result = take_mark(reader)
        changes = take_changes(reader)
        orders = take_orders(reader)
        reader.finish()
    except Misplaced as e:
        raise BadTurn(e.place)
    return base, result, changes, orders


def take_mark(reader):
    high = reader.take_word()
    return high * 65536 + reader.take_word()


def take_changes(reader):
    """The changes of a turn, which ascend, a list."""
    changes = []
    last = ("", "")
    count = reader.take_count()
    for _ in range(count):
        begin = reader.at
        unit = reader.take_name()
        if unit < last[0]:
            raise Misplaced(begin)
        mark = reader.take_flag()
        place = reader.at
        name = reader.take_name()
        if (unit, name) <= last:
            raise Misplaced(begin)
        last = (unit, name)
        changes.append(Change(unit, name, take_whole(reader, name, place) if mark == 1 else None))
    return changes


def take_orders(reader):
    """The orders of a turn, which ascend, a list."""
    orders = []
    last = ""
    count = reader.take_count()
    for _ in range(count):
        begin = reader.at
        unit = reader.take_name()
        if unit <= last:
            raise Misplaced(begin)
        last = unit
        many = reader.take_count()
        orders.append((unit, tuple([reader.take_name() for _ in range(many)])))
    return orders
