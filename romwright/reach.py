"""What a program uses in any row of events, and whether it is sure to confirm."""

from romwright.alike import MOST_STANDINGS, standing_at, stood
from romwright.named import events_now, Lone
from romwright.order import ascending
from romwright.plain import NoSection, TooMany
from romwright.units import Section, Unit


class Confirm:
    """A program that is sure to confirm: the greatest number of steps, and the least row that does so many."""

    def __init__(self, steps, row):
        self.steps = steps
        self.row = row


class Never:
    """A program that is not sure to confirm: a row to an end, or to a standing that a ring leads back to."""

    def __init__(self, row, ring):
        self.row = row
        self.ring = ring


class Paths:
    """The standings, with their records, that have not confirmed and wait for a feed or an answer."""

    def __init__(self):
        self.found = []
        self.numbers = {}
        self.rows = []
        # For each standing, what its events lead to: (event, steps, number of a standing or None behind a confirm).
        self.edges = []

    def number_of(self, standing, row):
        """The number of a standing, which is added if it is new."""
        if standing not in self.numbers:
            if len(self.found) == MOST_STANDINGS:
                raise TooMany(MOST_STANDINGS)
            self.numbers[standing] = len(self.found)
            self.found.append(standing)
            self.rows.append(row)
        return self.numbers[standing]


def reach(program, alphabet):
    """The names of the used sections, with their least rows, a dict."""
    rows = {number: () for number, section in enumerate(program.sections) if section.kind == "kept"}
    off = (("off",), ())
    known = {off: ()}
    queue = [off]
    at = 0
    while at < len(queue):
        standing, record = queue[at]
        events = events_now(standing_at(program, standing, record), list(alphabet))
        for event in events:
            row = known[(standing, record)] + (event,)
            device = standing_at(program, standing, record)
            device.meet(event)
            for number in ascending(device.run.memory.used):
                rows.setdefault(number, row)
            behind = stood(device)
            if behind not in known:
                if len(queue) == MOST_STANDINGS:
                    raise TooMany(MOST_STANDINGS)
                known[behind] = row
                queue.append(behind)
        at += 1
    return {section.name: rows[number] for number, section in enumerate(program.sections) if number in rows}


def emptied(units, names):
    """The units with the sections of these names emptied, a list."""
    titles = [f"{unit.name}.{section.name}" for unit in units for section in unit.sections]
    for name in names:
        if name not in titles:
            raise NoSection(name)
    return [emptied_unit(unit, names) for unit in units]


def emptied_unit(unit, names):
    sections = [emptied_section(section) if f"{unit.name}.{section.name}" in names else section
                for section in unit.sections]
    return Unit(unit.name, sections)


def emptied_section(section):
    body = [("halt",)] if section.kind == "code" else []
    symbols = [(name, 0, binding) for name, _, binding in section.symbols]
    return Section(section.name, section.kind, body, align=section.align, fixed=section.fixed,
                   symbols=symbols, exports=section.exports)


def confirms(program, alphabet, record=None):
    """Whether a start is sure to confirm: a Confirm or a Never."""
    row = (("start",),)
    device = Lone(program, record)
    device.meet(row[0])
    if device.confirmed:
        return Confirm(device.confirmed_at, row)
    if device.kind not in ("asks", "far"):
        return Never(row, ())
    paths = Paths()
    paths.number_of(stood(device), row)
    end = follow(program, list(alphabet), paths)
    if end is not None:
        return Never(end, ())
    for number, standing_row in enumerate(paths.rows):
        ring = ring_of_events(paths.edges, number)
        if ring is not None:
            return Never(standing_row, ring)
    steps, rest = longest_ways(paths.edges)[0]
    return Confirm(device.steps + steps, row + rest)


def follow(program, words, paths):
    """Finds all standings and their edges; the least row to an end, or None."""
    while len(paths.edges) < len(paths.found):
        number = len(paths.edges)
        standing, record = paths.found[number]
        events = events_now(standing_at(program, standing, record), words)
        edges = []
        for event in events:
            if event[0] not in ("feed", "answer"):
                continue
            device = standing_at(program, standing, record)
            device.meet(event)
            row = paths.rows[number] + (event,)
            if device.confirmed:
                edges.append((event, device.confirmed_at, None))
            elif device.kind in ("asks", "far"):
                edges.append((event, device.steps, paths.number_of(stood(device), row)))
            else:
                return row
        paths.edges.append(edges)
    return None


def ring_of_events(edges, start):
    """The least tuple of events from a standing back to it, or None."""
    ways = [()]
    queue = [start]
    known = {start: True}
    at = 0
    while at < len(queue):
        number = queue[at]
        for event, _, target in edges[number]:
            if target == start:
                return ways[at] + (event,)
            if target is not None and target not in known:
                known[target] = True
                queue.append(target)
                ways.append(ways[at] + (event,))
        at += 1
    return None


def longest_ways(edges):
    """For each standing (steps, events): the most steps until a confirm, and the least such row; there is no ring."""
    best = {}
    while len(best) < len(edges):
        for number in range(len(edges)):
            targets = [target for _, _, target in edges[number] if target is not None]
            if number not in best and all([target in best for target in targets]):
                best[number] = longest_way(edges[number], best)
    return best


def longest_way(edges, best):
    """The most steps by one of these edges, and the least events that lead so far."""
    found = None
    for event, steps, target in edges:
        more, rest = (0, ()) if target is None else best[target]
        row = (event,) + rest
        if found is None or steps + more > found[0] or (steps + more == found[0] and len(row) < len(found[1])):
            found = (steps + more, row)
    return found
