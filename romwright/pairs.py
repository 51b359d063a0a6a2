"""Two placements on which machines part, for a run by names that hangs.

The sections that decide have bases chosen for both placements; all others lie in the same way on both, so that no
address has words on the two placements which differ as the machines' words do.
"""

from romwright.addresses import meeting_distance
from romwright.order import ascending


def parting_pair(program, run):
    """A pair of bases on which the step at which the run hangs parts."""
    op = program.sections[run.place[0]].body[run.place[1]][0]
    if op in ("same", "less"):
        return deciding_pair(program, op, run.pile[-2:])
    if op == "unless":
        return deciding_pair(program, op, run.pile[-1:])
    if op in ("load", "store"):
        return covering_pair(program, op, run.pile[-1])
    if op == "mul":
        return multiplied_pair(program, run.pile[-2:])
    if op == "sub" and not isinstance(run.pile[-2], int):
        # The difference moves the other way than the section that is moved, alone.
        return spread(program, {run.pile[-1][0]: (40000, 40001)}, [], 1)
    return shifted(program, 1)


def spread(program, chosen, avoided, start):
    """Two rows of bases: those that are chosen, and one for each other section, away from all of these."""
    blocks = [(address, address + 1) for address in avoided]
    for number in chosen:
        size = program.sections[number].size
        blocks.extend([(base, base + size) for base in chosen[number]])
    blocks = ascending(blocks)
    first, second = [], []
    at = start
    for number, section in enumerate(program.sections):
        if number in chosen:
            first.append(chosen[number][0])
            second.append(chosen[number][1])
        else:
            at = free_from(at, section.size, blocks)
            first.append(at)
            second.append(at)
            at += section.size
    return (tuple(first), tuple(second))


def free_from(at, size, blocks):
    """The least base from here on by which so many words share no address with the blocks, which ascend."""
    for low, high in blocks:
        if at < high and low < at + size:
            at = high
    return at


def shifted(program, start):
    """Two placements of which the second one lies one higher."""
    bases, _ = spread(program, {}, [], start)
    return (bases, tuple([base + 1 for base in bases]))


def word_on(value, bases):
    """The word of a value, for bases by the numbers of sections."""
    return value if isinstance(value, int) else (bases[value[0]] + value[1]) % 65536


def multiplied_pair(program, values):
    """For a product: of two starts, one gives products that differ as no address does."""
    pair = shifted(program, 1)
    if any([isinstance(value, int) for value in values]):
        return pair
    # One higher, the product grows by the sum of both words and 1.
    total = sum([word_on(value, pair[0]) for value in values]) % 65536
    return shifted(program, 2) if total in (0, 65535) else pair


def deciding_pair(program, op, values):
    """For what is left or chosen by two words, or by one and 0: a pair on which this is 1, and 0."""
    rows = choices(program, values)
    ones = [row for row in rows if decides(op, values, row)]
    noes = [row for row in rows if not decides(op, values, row)]
    for one in ones:
        for no in noes:
            # Where 1 and 0 are left, an address that moves by 1 would be left by both.
            if all([one[number] - no[number] != 1 for number in one]):
                return spread(program, {number: (one[number], no[number]) for number in one}, [], 1)
    return shifted(program, 1)


def decides(op, values, bases):
    words = [word_on(value, bases) for value in values]
    if op == "unless":
        return words[0] == 0
    return words[0] == words[1] if op == "same" else words[0] < words[1]


def choices(program, values):
    """Dicts from the numbers of the sections of these values to bases, near all where an outcome changes."""
    addresses = [value for value in values if not isinstance(value, int)]
    number = addresses[0][0]
    if addresses[-1][0] == number:
        words = [value for value in values if isinstance(value, int)]
        offsets = [offset for _, offset in addresses]
        return [{number: base} for base in bases_near(program, number, offsets, words)]
    return choices_of_two(program, addresses[0], addresses[1])


def bases_near(program, number, offsets, words):
    """Bases of a section near both ends and near those by which an address is one of the words, or 0."""
    most = 65535 - program.sections[number].size
    points = [1, most]
    for offset in offsets:
        points.extend([(word - offset) % 65536 for word in words + [0]])
    near = {point + k: True for point in points for k in range(-3, 4)}
    return [base for base in ascending(near) if 1 <= base <= most]


def choices_of_two(program, left, right):
    """Bases of two sections, among them some by which the addresses are the same word, if they can be."""
    pairs = []
    distance = meeting_distance(program, left, right)
    if distance is not None:
        first, second = max(1, 1 - distance), max(1, 1 + distance)
        for k in (0, 1, -2):
            # The section that lies behind is the one that moves.
            pairs.append((first, second + k) if distance >= 0 else (first + k, second))
    for first in bases_far(program, left):
        pairs.extend([(first, second) for second in bases_far(program, right)])
    return [{left[0]: first, right[0]: second} for first, second in pairs
            if are_bases(program, {left[0]: first, right[0]: second})]


def bases_far(program, address):
    """Bases of a section far from each other, and those by which its address is the least or greatest word."""
    number, offset = address
    points = (1, 1000, 20000, 40000, 65535 - program.sections[number].size, 65536 - offset, 65535 - offset)
    return [base for base in points if 1 <= base <= 65535 - program.sections[number].size]


def are_bases(program, bases):
    """Whether these sections can have these bases together."""
    rows = ascending([(bases[number], bases[number] + program.sections[number].size) for number in bases])
    filled = [row for row in rows if row[0] < row[1]]
    if any([low < 1 or high > 65535 for low, high in rows]):
        return False
    return all([filled[k][1] <= filled[k + 1][0] for k in range(len(filled) - 1)])


def covering_pair(program, op, address):
    """For a load or store: a pair on which a section lies there, and nothing."""
    number = None if isinstance(address, int) else address[0]
    cover = covering_section(program, op, number)
    size = program.sections[cover].size
    for base in [0] if number is None else bases_far(program, address):
        fixed = {} if number is None else {number: base}
        word = word_on(address, fixed)
        if word in (0, 65535):
            continue
        for first in (word, word - size + 1):
            for second in (1, 20000, 40000):
                lies = second <= word < second + size
                if not lies and are_bases(program, {**fixed, cover: first}) and are_bases(
                        program, {**fixed, cover: second}):
                    chosen = {each: (fixed[each], fixed[each]) for each in fixed}
                    chosen[cover] = (first, second)
                    return spread(program, chosen, [word], 1)
    return shifted(program, 1)


def covering_section(program, op, number):
    """A section with words, other than this one; one that can be written, for a store."""
    for each, section in enumerate(program.sections):
        if each != number and section.size > 0 and (op == "load" or section.kind in ("data", "zero", "kept")):
            return each
    return None
