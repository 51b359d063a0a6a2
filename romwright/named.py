"""Runs by names, and lone devices."""

from romwright.byname import Memory, NameRun
from romwright.meeting import meet_event, Meeter
from romwright.order import ascending
from romwright.stepping import given, stepped, went


class Run(NameRun):
    """A run of a program by its names alone."""

    def __init__(self, program, record=None):
        super().__init__(program, Memory(program, record), program.entry, (), False)

    @property
    def stack(self):
        return tuple(self.pile)

    @property
    def returns(self):
        return tuple(self.backs)

    def step(self):
        return stepped(self)

    def go(self, steps):
        return went(self, steps)

    def give(self, *words):
        given(self, words)

    def asked(self):
        return self.wanted

    def cell(self, number, place):
        return self.memory.held[number][place]


class Lone(Meeter):
    """A lone device: a program, a record and a run."""

    def __init__(self, program, record=None, limit=None):
        super().__init__(program.offers, program.wants, record, limit)
        self.program = program

    def meet(self, event):
        return meet_event(self, event)

    def fresh_run(self):
        return Run(self.program, self.record)

    def run_afar(self, name, words):
        """A call from afar, in the memory of the run that is put aside."""
        place = [export[3:] for export in self.program.exports if export[0] == name][0]
        return NameRun(self.program, self.run.memory, place, words, True)

    def spot(self, place):
        return (self.program.sections[place[0]].name, place[1])

    def standing(self):
        if self.kind == "fault":
            return ("fault", self.reason)
        if self.kind not in ("asks", "far", "done"):
            return (self.kind,)
        memory = self.run.memory
        parts = tuple(ascending([(group, memory.present[group]) for group in memory.present]))
        standing = (self.kind, cells_there(memory), parts)
        if self.kind == "done":
            return standing
        return standing + (self.run.place, self.run.stack, self.run.returns)

    @classmethod
    def from_standing(cls, program, record, standing):
        device = cls(program, record)
        stand(device, standing)
        return device

    def events(self, alphabet):
        for event in events_now(self, list(alphabet)):
            yield event


def met(program, events, record=None):
    """The observations of a new lone device for each event."""
    device = Lone(program, record)
    return [device.meet(event) for event in events]


def cells_there(memory):
    """The cells that can change, for each section; None where they cannot or the section is not there."""
    rows = []
    for number, section in enumerate(memory.program.sections):
        counts = section.kind in ("data", "zero", "kept") and memory.has(number)
        rows.append(tuple(memory.held[number]) if counts else None)
    return tuple(rows)


def stand(device, standing):
    """Lets a new device stand as it is told."""
    device.kind = standing[0]
    if device.kind == "fault":
        device.reason = standing[1]
    if device.kind not in ("asks", "far", "done"):
        return
    run = device.fresh_run()
    run.kind = device.kind
    for group, part in standing[2]:
        run.memory.present[group] = part
    for number, cells in enumerate(standing[1]):
        if cells is not None:
            run.memory.held[number] = list(cells)
    if device.kind != "done":
        run.place = standing[3]
        run.pile = list(standing[4])
        run.backs = list(standing[5])
    if device.kind == "far":
        # The words that were sent count no longer; what they were is not told.
        number, place = run.place
        peer, name, _, leaves = device.wants[device.program.sections[number].body[place - 1][1]]
        run.wanted = (peer, name, (), leaves)
    device.run = run
    device.active = run


def events_now(device, words):
    """The events that a lone device meets now, over these words, a list."""
    events = [("start",)]
    if device.kind == "asks":
        events.extend([("feed", word) for word in words])
    if device.kind == "far":
        answers = tuples_of(words, device.run.wanted[3])
        events.extend([("answer", answer) for answer in answers])
        events.append(("lost",))
    if device.kind in ("asks", "done"):
        for name, takes, _ in device.offers:
            events.extend([("call", name, passed) for passed in tuples_of(words, takes)])
    return events


def tuples_of(words, count):
    """All tuples of so many of these words, in the order of their places."""
    rows = [()]
    for _ in range(count):
        rows = [row + (word,) for row in rows for word in words]
    return rows
