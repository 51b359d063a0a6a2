"""A run by words, in stretches of memory."""

from romwright.coding import first_part, HOP, op_of, SHORT, WITH_WORD
from romwright.stepping import fault, perform, Stepper


class Store:
    """The words in memory, and the parts that are present."""

    def __init__(self, setup, record):
        self.parts = setup.parts
        self.words = {}
        self.marks = {}
        # For each group of which a part is present, its number in bring.
        self.present = {}
        self.put_in(setup.stretches)
        for name, address in setup.cells:
            if record is not None and name in record:
                self.words[address] = record[name]

    def put_in(self, stretches):
        for first, row, mark in stretches:
            for offset, word in enumerate(row):
                self.words[first + offset] = word
                self.marks[first + offset] = mark

    def take_out(self, stretches):
        for first, row, _ in stretches:
            for offset in range(len(row)):
                del self.words[first + offset]

    def bring(self, number):
        """Brings a part, told by its number in bring, if it is not present."""
        group, stretches = self.parts[number - 1]
        before = self.present.get(group)
        if before == number:
            return
        if before is not None:
            self.take_out(self.parts[before - 1][1])
        self.put_in(stretches)
        self.present[group] = number


class WordRun(Stepper):
    """A run by words."""

    def __init__(self, setup, memory, place, words, afar):
        super().__init__(setup.wants, place, words, afar)
        self.setup = setup
        self.memory = memory

    def advance(self):
        """Does one step of a run that runs."""
        self.steps += 1
        first = self.first_word()
        if first is None:
            return
        told = first_part(first)
        if told is None:
            fault(self, "word")
            return
        name, low = told
        operand = None
        behind = self.place + 1
        if name in SHORT:
            operand = (behind + low) % 65536
        elif name in WITH_WORD:
            operand = self.read_cell(behind)
            behind += 1
            if operand is None:
                return
            if self.is_too_great(name, operand):
                fault(self, "word")
                return
        perform(self, op_of(name), operand, behind)

    def first_word(self):
        """The first word of the instruction that is due, behind a hop, or None; then there is a fault."""
        first = self.read_cell(self.place)
        if first != HOP:
            return first
        target = self.read_cell(self.place + 1)
        if target is None:
            return None
        self.place = target
        first = self.read_cell(target)
        if first == HOP:
            fault(self, "hop")
            return None
        return first

    def is_too_great(self, name, number):
        """Whether the number of a want or a part is none."""
        if name == "far":
            return number >= len(self.wants)
        return name == "bring" and number > len(self.memory.parts)

    def combine(self, op, left, right):
        if op == "less":
            return 1 if left < right else 0
        if op == "same":
            return 1 if left == right else 0
        if op == "add":
            return (left + right) % 65536
        return (left - right if op == "sub" else left * right) % 65536

    def is_zero(self, value):
        return value == 0

    def read_cell(self, address):
        """The word at an address, or None; then there is a fault."""
        if address not in self.memory.words:
            fault(self, "astray")
            return None
        return self.memory.words[address]

    def write_cell(self, address, value):
        """Whether a word could be stored; otherwise there is a fault."""
        if address not in self.memory.words or not self.memory.marks[address]:
            fault(self, "astray")
            return False
        self.memory.words[address] = value
        return True

    def bring_part(self, number):
        if number != 0:
            self.memory.bring(number)

    def kept_cells(self):
        """The pairs (name, word) of the kept cells."""
        return [(name, self.memory.words[address]) for name, address in self.setup.cells]
