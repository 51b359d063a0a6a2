"""The rules that a script keeps, over the tuples of its statements."""

from romwright.exprs import FACTS, least_ring, names_in, WORDS
from romwright.plain import BadStatement, Ring, Unknown

LIMITS = {"region": 6, "overlay": 2, "free": 5, "entry": 1, "keep": 8, "let": 16, "claim": 16}
TAKING = ("place", "free", "part")
MOST_TAKING = 10
MOST_PATTERNS = 6
MOST_PARTS = 4


class Rules:
    """What the statements so far have told."""

    def __init__(self):
        self.names = {}
        self.regions = {}
        self.counts = {}
        # The number of parts of the overlay that is told; None behind other statements.
        self.parts = None

    def keep(self, row):
        """Whether a statement keeps the rules, given those ahead of it."""
        word = row[0]
        if not self.keeps_parts(word) or not self.keeps_counts(word):
            return False
        if word in TAKING and len(row[-1]) > MOST_PATTERNS:
            return False
        if word in ("entry", "keep", "claim"):
            return True
        if row[1] in self.names or (word == "let" and row[1] in WORDS):
            return False
        self.names[row[1]] = word
        return self.keeps_regions(row)

    def keeps_parts(self, word):
        """Whether this word can stand where the statements so far end."""
        if word == "part":
            if self.parts is None or self.parts == MOST_PARTS:
                return False
            self.parts += 1
            return True
        if self.parts == 0:
            return False
        self.parts = 0 if word == "overlay" else None
        return True

    def keeps_counts(self, word):
        self.counts[word] = self.counts.get(word, 0) + 1
        if word in LIMITS and self.counts[word] > LIMITS[word]:
            return False
        return sum([self.counts.get(each, 0) for each in TAKING]) <= MOST_TAKING

    def keeps_regions(self, row):
        """Whether a region lies right, or the regions that are named are of the right kinds."""
        word = row[0]
        if word == "region":
            return self.keeps_bounds(row[1:])
        if word == "place":
            if row[3] is None:
                return row[2] in self.regions
            return self.region_kind(row[2]) == "ram" and self.region_kind(row[3]) == "rom"
        if word == "overlay":
            return self.region_kind(row[2]) == "ram" and self.region_kind(row[3]) == "rom"
        if word == "free":
            kinds = [self.region_kind(name) for name in row[2]]
            return len(set(row[2])) == len(row[2]) <= 3 and all([kind == "rom" for kind in kinds])
        return True

    def keeps_bounds(self, region):
        name, kind, start, length = region
        least, most = (16, 2048) if kind == "rom" else (1, 65535)
        if start < least or length < 1 or start + length > most:
            return False
        for other in self.regions:
            place = self.regions[other]
            if place[0] == kind and start < place[1] + place[2] and place[1] < start + length:
                return False
        self.regions[name] = (kind, start, length)
        return True

    def region_kind(self, name):
        """The kind of a region, or None if there is none of this name."""
        return self.regions[name][0] if name in self.regions else None


def check_rules(rows):
    """Raises the first error of a script of these statements."""
    rules = Rules()
    for number, row in enumerate(rows):
        if not rules.keep(row):
            raise BadStatement(number)
    if rules.parts == 0 or "entry" not in rules.counts:
        raise BadStatement(len(rows))
    for row in rows:
        if row[0] in ("let", "claim"):
            for word, name in names_in(row[-1]):
                check_known(word, name, rules.names)
    ring = least_ring({row[1]: row[2] for row in rows if row[0] == "let"})
    if ring is not None:
        raise Ring(ring)


def check_known(word, name, names):
    """Raises the error for a name that is used as a let, place or region, and is none."""
    told = names.get(name)
    if word == "let":
        known = told == "let"
    elif word in FACTS[:4]:
        known = told in TAKING or told == "overlay"
    else:
        known = word not in FACTS[4:8] or told == "region"
    if not known:
        raise Unknown(name)
