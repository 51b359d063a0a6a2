"""Machines with stretches of memory, and devices that have one."""

from romwright.byword import Store, WordRun
from romwright.coding import CODES, first_part, SHORT, WITH_WORD
from romwright.meeting import meet_event, Meeter
from romwright.plain import Astray, BadItem, is_word
from romwright.stepping import given, stepped, went


class Setup:
    """What a machine begins with."""

    def __init__(self, stretches, entry, *, exports=(), wants=(), cells=(), parts=()):
        self.stretches = plain_stretches(stretches)
        self.entry = entry
        self.exports = tuple(exports)
        self.wants = tuple(wants)
        self.cells = tuple(cells)
        self.parts = tuple([(group, plain_stretches(rows)) for group, rows in parts])

    def __eq__(self, other):
        return isinstance(other, Setup) and setup_key(self) == setup_key(other)


class Machine(WordRun):
    """A run of a setup."""

    def __init__(self, setup, record=None):
        super().__init__(setup, Store(setup, record), setup.entry, (), False)

    @property
    def stack(self):
        return tuple(self.pile)

    @property
    def returns(self):
        return tuple(self.backs)

    def __getitem__(self, at):
        if at not in self.memory.words:
            raise Astray(at)
        return self.memory.words[at]

    def __contains__(self, x):
        return x in self.memory.words

    def __iter__(self):
        raise TypeError("a machine is not iterated over")

    def step(self):
        return stepped(self)

    def go(self, steps):
        return went(self, steps)

    def give(self, *words):
        given(self, words)

    def asked(self):
        return self.wanted


class Board(Meeter):
    """A device with a setup, a record and a run."""

    def __init__(self, setup, record=None, limit=None):
        offers = tuple([export[:3] for export in setup.exports])
        super().__init__(offers, setup.wants, record, limit)
        self.setup = setup

    def meet(self, event):
        return meet_event(self, event)

    def fresh_run(self):
        return Machine(self.setup, self.record)

    def run_afar(self, name, words):
        """A call from afar, in the memory of the run that is put aside."""
        place = [export[3] for export in self.setup.exports if export[0] == name][0]
        return WordRun(self.setup, self.run.memory, place, words, True)

    def spot(self, place):
        return place


def plain_stretches(stretches):
    return tuple([(first, tuple(words), mark) for first, words, mark in stretches])


def setup_key(setup):
    """All that two equal setups have in common."""
    return (setup.stretches, setup.entry, setup.exports, setup.wants, setup.cells, setup.parts)


def code_words(instruction, *operands):
    """The words of an instruction, a tuple."""
    if not isinstance(instruction, str) or instruction not in CODES:
        raise BadItem(0)
    first = CODES.index(instruction) * 256
    if instruction not in SHORT and instruction not in WITH_WORD:
        if len(operands) != 0:
            raise BadItem(0)
        return (first,)
    if len(operands) != 1:
        raise BadItem(0)
    operand = operands[0]
    if instruction in WITH_WORD:
        if not is_word(operand):
            raise BadItem(1)
        return (first, operand)
    if not isinstance(operand, int) or isinstance(operand, bool) or not -128 <= operand <= 127:
        raise BadItem(1)
    return (first + operand % 256,)


def decoded(words):
    """(instruction, operands) at the beginning of these words, or None."""
    told = first_part(words[0]) if len(words) > 0 else None
    if told is None:
        return None
    name, low = told
    if name in SHORT:
        return (name, (low,))
    if name not in WITH_WORD:
        return (name, ())
    return (name, (words[1],)) if len(words) > 1 else None
