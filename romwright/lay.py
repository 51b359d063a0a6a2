"""Programs laid at a home."""

from romwright.exprs import let_values, names_in, value
from romwright.forms import aligned, offset_in, Shape
from romwright.layout import Frame
from romwright.order import ascending
from romwright.pack import corners, is_at_most, packings
from romwright.plain import BadHome, CannotKeep, NoFit, NoName


class Laying:
    """Where everything of a program lies; compared by its words alone."""

    def __init__(self, picked, home, frame, packing):
        self.picked = picked
        self.home = home
        self.frame = frame
        self.packing = packing
        self.lengths = tuple([end - base for end, base in zip(packing.ends, frame.bases)])
        self.words = sum(self.lengths)
        self.starts = {name: frame.starts[name] for name in frame.starts}
        for room, order in zip(frame.rooms, packing.orders):
            end = room[0]
            for number in order:
                size, align = frame.things[number]
                self.starts[frame.free[number].name] = aligned(end, align)
                end = aligned(end, align) + size

    def start_of(self, name):
        if name not in self.starts:
            raise NoName(name)
        return self.starts[name]

    def end_of(self, name):
        return self.start_of(name) + self.size_of(name)

    def size_of(self, name):
        if name not in self.starts:
            raise NoName(name)
        return self.frame.sizes[name]

    def load_of(self, name):
        return self.frame.loads.get(name, self.start_of(name))

    def used_of(self, name):
        for region, length in zip(self.picked.script.regions, self.lengths):
            if region.name == name:
                return length
        raise NoName(name)

    def address(self, number, place):
        name = self.picked.where[number]
        return self.starts[name] + offset_in(self.frame.shapes[name], number, place)

    def at_load(self, number):
        name = self.picked.where[number]
        return self.load_of(name) + offset_in(self.frame.shapes[name], number, 0)

    def shape_of(self, name):
        if name not in self.frame.shapes:
            raise NoName(name)
        shape = self.frame.shapes[name]
        return Shape(self.picked.program, shape.sections, self.picked.script[name].align, shape.rounds)

    def facts(self, confirms=None):
        facts = {("home",): self.home, ("confirms",): confirms}
        for name in self.starts:
            facts[("start", name)] = self.start_of(name)
            facts[("end", name)] = self.end_of(name)
            facts[("size", name)] = self.size_of(name)
            facts[("load", name)] = self.load_of(name)
        for region, base, used in zip(self.picked.script.regions, self.frame.bases, self.lengths):
            facts[("base", region.name)] = base
            facts[("len", region.name)] = region.length
            facts[("used", region.name)] = used
            facts[("room", region.name)] = region.length - used
        add_symbols(facts, self)
        lets = let_values(self.picked.script.lets, facts)
        for name in lets:
            facts[("let", name)] = lets[name]
        return facts

    def keeps_claim(self, number, confirms=None):
        return is_kept(self.picked.script.claims[number], self.facts(confirms))

    def __eq__(self, other):
        if not isinstance(other, Laying):
            return NotImplemented
        return self.words == other.words

    def __ne__(self, other):
        if not isinstance(other, Laying):
            return NotImplemented
        return self.words != other.words

    def __lt__(self, other):
        if not isinstance(other, Laying):
            return NotImplemented
        return self.words < other.words

    def __le__(self, other):
        if not isinstance(other, Laying):
            return NotImplemented
        return self.words <= other.words

    def __gt__(self, other):
        if not isinstance(other, Laying):
            return NotImplemented
        return self.words > other.words

    def __ge__(self, other):
        if not isinstance(other, Laying):
            return NotImplemented
        return self.words >= other.words


def add_symbols(facts, laying):
    """Adds what the facts tell of symbols: of all that mean something from outside, and all that the script names."""
    script, program = laying.picked.script, laying.picked.program
    for tree in list(script.lets.values()) + list(script.claims):
        for word, name in names_in(tree):
            if word in ("exported", "kept"):
                facts[(word, name)] = 0
    meant = laying.picked.meant
    for name in meant:
        number, place = meant[name]
        facts[("at", name)] = None if number is None else laying.address(number, place)
        facts[("exported", name)] = 0
        facts[("kept", name)] = 0
    for name, takes, leaves in program.offers:
        facts[("exported", name)] = 1
        facts[("takes", name)] = takes
        facts[("leaves", name)] = leaves
    for name, _, _ in program.cells:
        facts[("kept", name)] = 1


def is_kept(claim, facts):
    """Whether a claim has a value other than 0."""
    result = value(claim, facts)
    return result is not None and result != 0


def check_home(picked, home):
    if not isinstance(home, int) or isinstance(home, bool) or not 1 <= home <= 63487:
        raise BadHome(home)
    for region in picked.script.regions:
        if region.kind == "ram" and region.start < home + 2048 and home < region.start + region.length:
            raise BadHome(home)


def layings(picked, home):
    """The layings that fit, in order."""
    check_home(picked, home)
    frame = Frame(picked, home)
    for packing in packings(frame.rooms, frame.things, frame.choices):
        yield Laying(picked, home, frame, packing)


def kept_ahead(laying, confirms):
    """How many claims a laying keeps ahead of the first one that it does not keep."""
    claims = laying.picked.script.claims
    facts = laying.facts(confirms) if len(claims) > 0 else {}
    for number, claim in enumerate(claims):
        if not is_kept(claim, facts):
            return number
    return len(claims)


def best_laying(picked, home, confirms):
    """(number, laying): the most claims from the first on that a laying keeps, and the first such of fewest words."""
    check_home(picked, home)
    frame = Frame(picked, home)
    found = list(packings(frame.rooms, frame.things, frame.choices))
    best = None
    for _, number in ascending([(packing.words, number) for number, packing in enumerate(found)]):
        laying = Laying(picked, home, frame, found[number])
        ahead = kept_ahead(laying, confirms)
        if best is None or ahead > best[0]:
            best = (ahead, laying)
        if ahead == len(picked.script.claims):
            break
    if best is None:
        raise NoFit(len(frame.things))
    return best


def lay(picked, home, confirms=None):
    """The laying of a program: of fewest words, with all claims kept."""
    number, laying = best_laying(picked, home, confirms)
    if number < len(picked.script.claims):
        raise CannotKeep(number)
    return laying


def first_unkept(picked, home, confirms=None):
    """The first claim that cannot be kept with those ahead of it, and a laying that keeps these; or None."""
    number, laying = best_laying(picked, home, confirms)
    return None if number == len(picked.script.claims) else (number, laying)


def least_machines(picked, home):
    """The corners, ascending, each with its first laying."""
    check_home(picked, home)
    frame = Frame(picked, home)
    starts = tuple([room[0] for room in frame.rooms])
    rows = []
    for _, packing in corners(starts, frame.things, frame.choices):
        laying = Laying(picked, home, frame, packing)
        rows.append((laying.lengths, laying))
    return tuple(rows)


def holds(corner, lengths):
    """Whether regions of these lengths can hold a program of this corner."""
    return is_at_most(corner, lengths)
