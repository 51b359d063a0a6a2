"""The shapes of places: where their sections begin, and which branches are wide or veneered."""

from romwright.items import BRANCHES, item_size
from romwright.order import ascending, greatest_of


class Shape:
    def __init__(self, program, numbers, align, rounds):
        self.sections = tuple(numbers)
        self.rounds = {branch: rounds[branch] for branch in rounds}
        self.veneers = tuple([veneers_of(program, number, rounds) for number in numbers])
        # For each section, the offsets of its items, and its end without veneers.
        self.steps = tuple([steps_of(program.sections[number], number, rounds) for number in numbers])
        self.sizes = tuple([steps[-1] + 2 * len(targets) for steps, targets in zip(self.steps, self.veneers)])
        self.offsets = offsets_of(program, numbers, self.sizes)
        self.size = self.offsets[-1] + self.sizes[-1] if len(numbers) > 0 else 0
        aligns = [program.sections[number].align for number in numbers]
        self.align = greatest_of([align] + aligns) if self.size > 0 else 1


def shaped(program, numbers, align=1):
    """The shape of a place with these sections, with the forms that its branches need."""
    rounds = {(number, place): 0 for number, place, target in branches_of(program, numbers)
              if target[0] not in numbers}
    turn = 0
    while True:
        shape = Shape(program, numbers, align, rounds)
        short = unreached(program, shape)
        if short == []:
            return shape
        turn += 1
        for branch in short:
            rounds[branch] = turn


def shape_with(program, numbers, wide, align=1):
    """The shape of a place in which exactly these branches are wide or veneered."""
    return Shape(program, numbers, align, {branch: 0 for branch in wide})


def unreached(program, shape):
    """The short branches that do not reach, ascending."""
    found = []
    for number, place, target in branches_of(program, shape.sections):
        if (number, place) not in shape.rounds and not reaches(shape, number, place, target):
            found.append((number, place))
    return ascending(found)


def reaches(shape, number, place, target):
    """Whether a short branch reaches its target."""
    if target[0] not in shape.sections:
        return False
    behind = offset_in(shape, number, place) + 1
    return -128 <= offset_in(shape, target[0], target[1]) - behind <= 127


def offset_in(shape, number, place):
    """The offset of an item in a place; for the place behind the last item, its end without veneers."""
    at = shape.sections.index(number)
    return shape.offsets[at] + shape.steps[at][place]


def branches_of(program, numbers):
    """The branches of these sections: (number, place, target)."""
    found = []
    for number in numbers:
        section = program.sections[number]
        if section.kind == "code":
            found.extend([(number, place, item[1:]) for place, item in enumerate(section.body)
                          if item[0] in BRANCHES])
    return found


def steps_of(section, number, rounds):
    """The offsets of the items of a section in it, and behind them the end of the last one."""
    at = 0
    steps = [at]
    for place, item in enumerate(section.body):
        at += form_size(section, item, (number, place) in rounds)
        steps.append(at)
    return tuple(steps)


def form_size(section, item, is_wide):
    """The number of words of an item, where it stands."""
    if section.kind == "code" and item[0] in BRANCHES:
        return 2 if is_wide and not section.fixed else 1
    return item_size(section.kind, item)


def veneers_of(program, number, rounds):
    """The targets of the veneered branches of a section, each once, in order."""
    if not program.sections[number].fixed:
        return ()
    targets = {target: True for _, place, target in branches_of(program, [number]) if (number, place) in rounds}
    return tuple(targets)


def offsets_of(program, numbers, sizes):
    """The offsets of the sections of a place, in order."""
    offsets = []
    end = 0
    for number, size in zip(numbers, sizes):
        begin = aligned(end, program.sections[number].align)
        offsets.append(begin)
        end = begin + size
    return tuple(offsets)


def aligned(address, align):
    """The least multiple of an alignment that is not below an address."""
    return (address + align - 1) // align * align
