"""Plans by which devices get parcels, what fits which machine, and goals that are alike."""

from romwright.alike import alike, Table
from romwright.lay import holds
from romwright.order import ascending
from romwright.plain import BadParcel, is_between, NoRow, TooMany

MOST_WORDS = 60000
MOST_PARCELS = 10
MOST_DEVICES = 8


class Parcel:
    """What leads from a release, or from every one, to another one."""

    def __init__(self, base, result, words):
        if not is_between(words, 1, MOST_WORDS):
            raise BadParcel(words)
        self.base = base
        self.result = result
        self.words = words


class Plan:
    """Parcels that are sent to all, and a row of parcels for each device; compared by its price alone."""

    def __init__(self, to_all, rows, price):
        self.to_all = tuple(to_all)
        self.rows = tuple(rows)
        self.price = price

    def __eq__(self, other):
        if not isinstance(other, Plan):
            return NotImplemented
        return self.price == other.price

    def __ne__(self, other):
        if not isinstance(other, Plan):
            return NotImplemented
        return self.price != other.price

    def __lt__(self, other):
        if not isinstance(other, Plan):
            return NotImplemented
        return self.price < other.price

    def __le__(self, other):
        if not isinstance(other, Plan):
            return NotImplemented
        return self.price <= other.price

    def __gt__(self, other):
        if not isinstance(other, Plan):
            return NotImplemented
        return self.price > other.price

    def __ge__(self, other):
        if not isinstance(other, Plan):
            return NotImplemented
        return self.price >= other.price


def check_lengths(parcels, starts):
    if len(parcels) > MOST_PARCELS:
        raise TooMany(MOST_PARCELS)
    if len(starts) > MOST_DEVICES:
        raise TooMany(MOST_DEVICES)


def best_rows(parcels, start, free):
    """A dict from each release that a device can come to, to (price, length, row) of the best row of parcels."""
    best = {start: (0, 0, ())}
    changed = True
    while changed:
        changed = False
        for number, parcel in enumerate(parcels):
            cost = 0 if number in free else parcel.words
            bases = [base for base in best if parcel.base is None or base == parcel.base]
            for base in bases:
                price, length, row = best[base]
                told = (price + cost, length + 1, row + (number,))
                if parcel.result not in best or told < best[parcel.result]:
                    best[parcel.result] = told
                    changed = True
    return best


def best_row(parcels, start, goals, free):
    """(price, length, row) of a device, or None."""
    best = best_rows(parcels, start, free)
    rows = ascending([best[goal] for goal in goals if goal in best])
    return rows[0] if len(rows) > 0 else None


def row_of(parcels, start, goals, free=()):
    """The row of a device, a tuple of numbers of parcels."""
    check_lengths(parcels, ())
    row = best_row(parcels, start, goals, free)
    if row is None:
        raise NoRow(start)
    return row[2]


def members_of(chosen, count):
    """The numbers of the parcels of a set, an ascending tuple."""
    return tuple([number for number in range(count) if (chosen >> number) & 1 == 1])


def price_with(parcels, starts, goals, free):
    """The price of the plan with these parcels sent to all, or None."""
    # Devices of one release have one row.
    known = {}
    for start in starts:
        if start not in known:
            known[start] = best_row(parcels, start, goals, free)
    if None in [known[start] for start in starts]:
        return None
    return 2 * sum([parcels[number].words for number in free]) + sum([known[start][0] for start in starts])


def price_table(parcels, starts, goals):
    """The prices of all sets of parcels, a list."""
    check_lengths(parcels, starts)
    return [price_with(parcels, starts, goals, members_of(chosen, len(parcels)))
            for chosen in range(1 << len(parcels))]


def plan(parcels, starts, goals):
    """The plan of least price."""
    prices = price_table(parcels, starts, goals)
    for start in starts:
        if best_row(parcels, start, goals, ()) is None:
            raise NoRow(start)
    price, to_all = ascending([(price, members_of(chosen, len(parcels))) for chosen, price in enumerate(prices)])[0]
    return Plan(to_all, [row_of(parcels, start, goals, to_all) for start in starts], price)


def fitting(corners, lengths):
    """(newest, first): the greatest number of a release that a machine can hold, the least of one that it cannot."""
    newest = first = None
    for number, rows in enumerate(corners):
        if any([holds(corner, lengths) for corner in rows]):
            newest = number
        elif first is None:
            first = number
    return (newest, first)


def goals_of(programs, target, alphabet):
    """The numbers of the programs that are alike with the target, and its own, an ascending tuple."""
    return tuple([number for number, program in enumerate(programs)
                  if number == target or isinstance(alike(program, programs[target], alphabet), Table)])
