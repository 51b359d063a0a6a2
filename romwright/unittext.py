"""Units as text, and text as units."""

from romwright.items import is_count, last_place, LAST_OPS, most_items
from romwright.lines import item_line, read_data_item, read_instruction, word_of
from romwright.plain import BadLine, is_name
from romwright.units import ALIGNMENTS, BINDINGS, KINDS, Section, Unit


def write_unit(unit):
    """The lines of a unit, a list."""
    lines = [f"unit {unit.name}"]
    for section in unit.sections:
        lines.extend(section_lines(section))
    lines.append("end")
    return lines


def section_lines(section):
    mark = "fixed" if section.fixed else "free"
    lines = [f"section {section.name} {section.kind} {section.align} {mark}"]
    at = {}
    for name, place, binding in section.symbols:
        at.setdefault(place, []).append(f"{binding} {name}")
    if section.kind == "zero":
        lines.extend(zero_lines(len(section), at))
    else:
        for place, item in enumerate(section.body):
            lines.extend(at.get(place, []))
            lines.append(item_line(item))
        lines.extend(at.get(len(section), []))
    for name, takes, leaves in section.exports:
        lines.append(f"export {name} {takes} {leaves}")
    return lines


def zero_lines(count, at):
    """The lines of a zero section: one for each run of items without symbols amid them."""
    lines = []
    begin = 0
    for place in range(count + 1):
        if place in at or place == count:
            if place > begin:
                lines.append(f"zero {place - begin}")
            begin = place
        lines.extend(at.get(place, []))
    return lines


def read_unit(lines):
    """The unit of these lines."""
    reader = UnitReader()
    for number, line in enumerate(lines):
        if not reader.accept(line.split(" ")):
            raise BadLine(number)
    if not reader.ended:
        raise BadLine(len(lines))
    return Unit(reader.name, reader.sections)


class UnitReader:
    """Takes lines as long as they are the beginning of the text of a unit."""

    def __init__(self):
        self.name = None
        self.sections = []
        self.names = {}
        self.draft = None
        self.ended = False

    def accept(self, words):
        """Whether the text can go on with the line of these words."""
        if self.ended:
            return False
        if self.name is None:
            return self.take_unit(words)
        if words == ["end"]:
            self.ended = True
            return self.close()
        if words[0] == "section":
            return self.close() and self.take_section(words)
        return self.draft is not None and self.draft.accept(words, self.names)

    def take_unit(self, words):
        if len(words) != 2 or words[0] != "unit" or not is_name(words[1]):
            return False
        self.name = words[1]
        return True

    def take_section(self, words):
        if len(words) != 5 or len(self.sections) == 8:
            return False
        name, kind, align, mark = words[1:]
        if not is_name(name) or name in [section.name for section in self.sections]:
            return False
        if kind not in KINDS or word_of(align) not in ALIGNMENTS:
            return False
        if mark != "free" and not (mark == "fixed" and kind == "code"):
            return False
        self.draft = Draft(name, kind, word_of(align), mark == "fixed")
        return True

    def close(self):
        """Ends the section that is read, if there is one; whether it can end here."""
        if self.draft is None:
            return True
        if not self.draft.whole():
            return False
        self.sections.append(self.draft.finish())
        self.draft = None
        return True


class Draft:
    """A section of which some lines have been read."""

    def __init__(self, name, kind, align, fixed):
        self.name = name
        self.kind = kind
        self.align = align
        self.fixed = fixed
        self.body = []
        self.symbols = []
        self.exports = []
        self.limit = most_items(kind, fixed)
        # Two runs of zeros cannot stand side by side.
        self.zeros = False

    def finish(self):
        return Section(self.name, self.kind, self.body, align=self.align, fixed=self.fixed,
                       symbols=self.symbols, exports=self.exports)

    def names_here(self):
        """The names of the symbols at the end so far, ascending as they were taken."""
        return [name for name, place, _ in self.symbols if place == len(self.body)]

    def whole(self):
        """Whether the items can end here."""
        if self.kind == "code":
            return len(self.body) > 0 and self.body[-1][0] in LAST_OPS and self.names_here() == []
        return self.kind != "kept" or self.names_here() == []

    def accept(self, words, names):
        """Whether the section can go on with this line; names are those that the unit defines."""
        if words[0] == "export":
            return self.whole() and self.take_export(words)
        if len(self.exports) > 0:
            return False
        if words[0] in BINDINGS:
            return self.take_symbol(words, names)
        if len(self.body) == self.limit:
            return False
        if self.kind == "zero":
            return self.take_zeros(words)
        return self.take_item(words)

    def take_symbol(self, words, names):
        if len(words) != 2 or not is_name(words[1]) or words[1] in names:
            return False
        if len(self.body) > last_place(self.kind, self.limit):
            return False
        here = self.names_here()
        if len(here) > 0 and (self.kind == "kept" or here[-1] > words[1]):
            return False
        if self.kind == "kept" and words[0] != "global":
            return False
        self.symbols.append((words[1], len(self.body), words[0]))
        names[words[1]] = True
        self.zeros = False
        return True

    def take_zeros(self, words):
        count = word_of(words[1]) if len(words) == 2 and words[0] == "zero" else None
        if count is None or count == 0 or self.zeros or len(self.body) + count > self.limit:
            return False
        self.body.extend([0] * count)
        self.zeros = True
        return True

    def take_item(self, words):
        item = read_instruction(words) if self.kind == "code" else read_data_item(words)
        if item is None:
            return False
        if self.kind == "kept" and (not isinstance(item, int) or self.names_here() == []):
            return False
        # Behind the last instruction that a section can have, none can mend its end.
        if self.kind == "code" and len(self.body) + 1 == self.limit and item[0] not in LAST_OPS:
            return False
        self.body.append(item)
        return True

    def take_export(self, words):
        if self.kind != "code" or len(words) != 4:
            return False
        name = words[1]
        takes, leaves = word_of(words[2]), word_of(words[3])
        if name not in [symbol[0] for symbol in self.symbols if symbol[2] == "global"]:
            return False
        if not is_count(takes) or not is_count(leaves):
            return False
        if len(self.exports) > 0 and self.exports[-1][0] >= name:
            return False
        self.exports.append((name, takes, leaves))
        return True
