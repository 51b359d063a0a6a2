"""A run by names, and its memory."""

from romwright.addresses import bounds_of, combined
from romwright.stepping import fault, perform, Stepper


class Memory:
    """The cells of a program, and the parts that are present."""

    def __init__(self, program, record):
        self.program = program
        self.held = [fresh_cells(section) for section in program.sections]
        # For each group of which a part is present, the number of the part.
        self.present = {}
        # The sections whose instructions were done, or whose addresses were on a stack.
        self.used = {}
        for name, number, place in program.cells:
            if record is not None and name in record:
                self.held[number][place] = record[name]

    def has(self, number):
        """Whether a section is there: it belongs to no part, or to one that is present."""
        part = self.program.parts[number]
        return part is None or self.present.get(part[0]) == part[1]

    def bring(self, number):
        """Brings the part of a section, if it is not present."""
        if self.has(number):
            return
        part = self.program.parts[number]
        numbers = [each for each, other in enumerate(self.program.parts) if other == part]
        for each in numbers:
            self.held[each] = fresh_cells(self.program.sections[each])
        self.present[part[0]] = part[1]


class NameRun(Stepper):
    """A run by names."""

    def __init__(self, program, memory, place, words, afar):
        super().__init__(program.wants, place, words, afar)
        self.program = program
        self.memory = memory

    def advance(self):
        """Does one step of a run that runs."""
        self.steps += 1
        number, place = self.place
        self.memory.used[number] = True
        if not self.memory.has(number):
            self.kind = "hangs"
            return
        item = self.program.sections[number].body[place]
        operand = None
        if len(item) == 2:
            operand = item[1]
        elif len(item) == 3:
            operand = item[1:]
        perform(self, item[0], operand, (number, place + 1))
        # Below the top there are only values that were on top before.
        if len(self.pile) > 0 and isinstance(self.pile[-1], tuple):
            self.memory.used[self.pile[-1][0]] = True

    def combine(self, op, left, right):
        return combined(self.program, op, left, right)

    def is_zero(self, value):
        """Whether a value is 0, or None if this hangs on places."""
        if isinstance(value, int):
            return value == 0
        least, _ = bounds_of(self.program.sections[value[0]].size, value[1])
        return False if least >= 1 else None

    def read_cell(self, address):
        """The value at an address, or None; then the run has been stopped."""
        if isinstance(address, int):
            stray(self, address in (0, 65535))
            return None
        number, offset = address
        if offset >= self.program.sections[number].size or not self.memory.has(number):
            self.kind = "hangs"
            return None
        return self.memory.held[number][offset]

    def write_cell(self, address, value):
        """Whether a value could be stored; otherwise the run has been stopped."""
        if isinstance(address, int):
            stray(self, address in (0, 65535) or writable_sections(self.program) == [])
            return False
        number, offset = address
        section = self.program.sections[number]
        if offset >= section.size:
            others = [each for each in writable_sections(self.program) if each != number]
            stray(self, others == [])
        elif not self.memory.has(number):
            self.kind = "hangs"
        elif section.kind == "const":
            fault(self, "astray")
        else:
            self.memory.held[number][offset] = value
            return True
        return False

    def bring_part(self, number):
        self.memory.bring(number)

    def kept_cells(self):
        """The pairs (name, value) of the kept cells, ascending."""
        return [(name, self.memory.held[number][place]) for name, number, place in self.program.cells]


def fresh_cells(section):
    """The values of the items of a section; none for code."""
    if section.kind == "code":
        return []
    return [item if isinstance(item, int) else item[1:] for item in section.body]


def writable_sections(program):
    """The numbers of the sections that have cells which can be written."""
    return [number for number, section in enumerate(program.sections)
            if section.kind in ("data", "zero", "kept") and section.size > 0]


def stray(run, is_fault):
    """Stops a run that loads or stores where no cell of a name lies."""
    if is_fault:
        fault(run, "astray")
    else:
        run.kind = "hangs"
