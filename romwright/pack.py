"""Things packed into rooms."""

from romwright.forms import aligned
from romwright.order import ascending, least_of
from romwright.plain import NoFit, TooMany


class Packing:
    """A dealing of things to rooms, with orders; compared by its words alone."""

    def __init__(self, starts, things, dealing, orders):
        self.dealing = tuple(dealing)
        self.orders = tuple(orders)
        self.ends = tuple([end_of_order(start, things, order) for start, order in zip(starts, orders)])
        self.words = sum(self.ends) - sum(starts)

    def __eq__(self, other):
        if not isinstance(other, Packing):
            return NotImplemented
        return self.words == other.words

    def __ne__(self, other):
        if not isinstance(other, Packing):
            return NotImplemented
        return self.words != other.words

    def __lt__(self, other):
        if not isinstance(other, Packing):
            return NotImplemented
        return self.words < other.words

    def __le__(self, other):
        if not isinstance(other, Packing):
            return NotImplemented
        return self.words <= other.words

    def __gt__(self, other):
        if not isinstance(other, Packing):
            return NotImplemented
        return self.words > other.words

    def __ge__(self, other):
        if not isinstance(other, Packing):
            return NotImplemented
        return self.words >= other.words


def laid_behind(end, thing):
    """The end of a thing that is laid behind this end."""
    return aligned(end, thing[1]) + thing[0]


def end_of_order(start, things, order):
    end = start
    for number in order:
        end = laid_behind(end, things[number])
    return end


def least_ends(start, things):
    """The least ends of all sets of things, a list by the numbers of the sets."""
    ends = [start]
    for chosen in range(1, 1 << len(things)):
        ends.append(least_behind(things, ends, chosen))
    return ends


def numbers_in(chosen, count):
    """The numbers of the things of a set, ascending."""
    return [number for number in range(count) if (chosen >> number) & 1 == 1]


def least_behind(things, ends, chosen):
    """The least end of a set of things, by the ends of smaller sets."""
    return least_of([laid_behind(ends[chosen - (1 << number)], things[number])
                     for number in numbers_in(chosen, len(things))])


def judge_ends(start, things, ends):
    """None if this is the table of the least ends, otherwise the least set whose entry is wrong."""
    if len(ends) != 1 << len(things) or ends[0] != start:
        return 0
    for chosen in range(1, len(ends)):
        if ends[chosen] != least_behind(things, ends, chosen):
            return chosen
    return None


def first_order(start, things, chosen):
    """The least order of the things of a set that has the least end."""
    least = least_ends(start, things)[chosen]
    order = ()
    end = start
    while chosen > 0:
        for number in numbers_in(chosen, len(things)):
            behind = laid_behind(end, things[number])
            if least_ends(behind, things)[chosen - (1 << number)] == least:
                break
        order = order + (number,)
        end = behind
        chosen -= 1 << number
    return order


def dealings(choices):
    """All dealings, in order: for each thing one of its rooms."""
    rows = [()]
    for choice in choices:
        rows = [row + (room,) for row in rows for room in choice]
    return rows


def dealt_to(dealing, room):
    """The numbers of the things that a room gets, ascending."""
    return [number for number, each in enumerate(dealing) if each == room]


def orders_of(numbers):
    """All orders of these numbers, ascending, for numbers that ascend."""
    rows = [()]
    for _ in numbers:
        rows = [row + (number,) for row in rows for number in numbers if number not in row]
    return rows


def orders_of_rooms(dealing, count):
    """All tuples with an order for each room, ascending."""
    rows = [()]
    for room in range(count):
        orders = orders_of(dealt_to(dealing, room))
        rows = [row + (order,) for row in rows for order in orders]
    return rows


def check_counts(rooms, things):
    if len(things) > 5:
        raise TooMany(5)
    if len(rooms) > 6:
        raise TooMany(6)


def is_within(packing, rooms):
    """Whether no end is beyond the limit of its room."""
    return all([end <= room[1] for end, room in zip(packing.ends, rooms)])


def packings(rooms, things, choices):
    """All packings, in order."""
    check_counts(rooms, things)
    starts = [room[0] for room in rooms]
    for dealing in dealings(choices):
        for orders in orders_of_rooms(dealing, len(rooms)):
            packing = Packing(starts, things, dealing, orders)
            if is_within(packing, rooms):
                yield packing


def least_packings(starts, things, choices):
    """For each dealing, the first packing by which each room has its least end; rooms have no limits."""
    known = {}
    rows = []
    for dealing in dealings(choices):
        orders = []
        for room, start in enumerate(starts):
            chosen = sum([1 << number for number in dealt_to(dealing, room)])
            if (start, chosen) not in known:
                known[(start, chosen)] = first_order(start, things, chosen)
            orders.append(known[(start, chosen)])
        rows.append(Packing(starts, things, dealing, orders))
    return rows


def pack(rooms, things, choices):
    """The first packing of fewest words."""
    check_counts(rooms, things)
    best = None
    for packing in least_packings([room[0] for room in rooms], things, choices):
        if is_within(packing, rooms) and (best is None or packing.words < best.words):
            best = packing
    if best is None:
        raise NoFit(len(things))
    return best


def is_at_most(first, second):
    """Whether numbers are at most those of another row, each at its place."""
    return all([one <= other for one, other in zip(first, second)])


def corners(starts, things, choices):
    """The corners, ascending, each with its first packing."""
    check_counts(starts, things)
    firsts = {}
    for packing in least_packings(starts, things, choices):
        lengths = tuple([end - start for start, end in zip(starts, packing.ends)])
        firsts.setdefault(lengths, packing)
    found = []
    for lengths in ascending(firsts):
        # Lengths that are at most these come ahead of them.
        if not any([is_at_most(corner, lengths) for corner, _ in found]):
            found.append((lengths, firsts[lengths]))
    return tuple(found)
