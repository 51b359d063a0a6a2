"""Programs that are alike over an alphabet, and the rows that part them."""

from romwright.named import events_now, Lone, tuples_of
from romwright.order import ascending
from romwright.plain import BadAlphabet, is_word, TooMany

MOST_STANDINGS = 300
# The standings with cells, and the lengths of their tuples.
RESTING = {"done": 3, "asks": 6, "far": 6}


class Alphabet:
    """A few different words."""

    def __init__(self, words):
        if not isinstance(words, tuple) or not 1 <= len(words) <= 4 or not all([is_word(word) for word in words]):
            raise BadAlphabet(words)
        if len(set(words)) != len(words):
            raise BadAlphabet(words)
        self.words = words

    def __iter__(self):
        return iter(self.words)

    def __contains__(self, x):
        return x in self.words

    def __len__(self):
        return len(self.words)

    def __call__(self, count):
        return tuples_of(self.words, count)

    def __eq__(self, other):
        return isinstance(other, Alphabet) and self.words == other.words


class Table:
    """Pairs of standings, each with a record."""

    def __init__(self, alphabet, pairs):
        self.alphabet = alphabet
        self.pairs = tuple(pairs)

    def __contains__(self, x):
        return x in self.pairs

    def __iter__(self):
        return iter(self.pairs)

    def __len__(self):
        return len(self.pairs)


class Parting:
    """A row that parts two programs, with what both tell at its last event."""

    def __init__(self, row, first, second):
        self.row = row
        self.first = first
        self.second = second


def standing_at(program, standing, record):
    """A lone device that stands so, with a record (a tuple of pairs)."""
    return Lone.from_standing(program, dict(record), standing)


def stood(device):
    """(standing, record) of a device; the record as a tuple of pairs, ascending."""
    return (device.standing(), tuple(ascending(list(device.record.items()))))


def alike(first, second, alphabet):
    """The table that shows that two programs are alike, or what parts them."""
    if first.offers != second.offers:
        return Parting((), first.offers, second.offers)
    off = (("off",), ("off",), ())
    rows = {off: ()}
    pairs = [off]
    at = 0
    while at < len(pairs):
        one, other, record = pairs[at]
        events = events_now(standing_at(first, one, record), list(alphabet))
        for event in events:
            row = rows[pairs[at]] + (event,)
            left, right = standing_at(first, one, record), standing_at(second, other, record)
            told, other_told = left.meet(event), right.meet(event)
            if told != other_told or told[-1] == ("hangs",):
                return Parting(row, told, other_told)
            pair = (left.standing(), right.standing(), stood(left)[1])
            if pair not in rows:
                if len(pairs) == MOST_STANDINGS:
                    raise TooMany(MOST_STANDINGS)
                rows[pair] = row
                pairs.append(pair)
        at += 1
    return Table(alphabet, pairs)


def judge_table(first, second, table):
    """None if the table shows that the programs are alike, otherwise the number of the first triple that is wrong."""
    off = (("off",), ("off",), ())
    if first.offers != second.offers or len(table.pairs) == 0 or table.pairs[0] != off:
        return 0
    known = {triple: True for triple in table.pairs}
    for number, triple in enumerate(table.pairs):
        if not is_standing(first, triple[0]) or not is_standing(second, triple[1]):
            return number
        if not is_closed(first, second, triple, list(table.alphabet), known):
            return number
    return None


def is_standing(program, standing):
    """Whether a device of this program can stand so by its form: a table may hold what another program stands in."""
    if standing[0] not in RESTING:
        return True
    if len(standing) != RESTING[standing[0]] or len(standing[1]) != len(program.sections):
        return False
    for section, cells in zip(program.sections, standing[1]):
        if cells is not None and len(cells) != len(section.body):
            return False
    if standing[0] == "done":
        return True
    number, place = standing[3]
    if number >= len(program.sections) or not 0 < place < len(program.sections[number].body):
        return False
    # The place is the one behind the instruction that rests.
    item = program.sections[number].body[place - 1]
    return isinstance(item, tuple) and item[0] == ("ask" if standing[0] == "asks" else "far")


def is_closed(first, second, triple, words, known):
    """Whether from a triple every event leads to the same observations, and to a triple that is known."""
    one, other, record = triple
    events = events_now(standing_at(first, one, record), words)
    if events_now(standing_at(second, other, record), words) != events:
        return False
    for event in events:
        left, right = standing_at(first, one, record), standing_at(second, other, record)
        told, other_told = left.meet(event), right.meet(event)
        if told != other_told or told[-1] == ("hangs",):
            return False
        # Whoever has saved the same has the same record.
        if (left.standing(), right.standing(), stood(left)[1]) not in known:
            return False
    return True
