"""Words, names and text; and all errors of the program."""

BLANK = 65535
LETTERS = "abcdefghijklmnopqrstuvwxyz"
# A sign's code is its place here; the blank stands for a sign behind the end.
SIGNS = " abcdefghijklmnopqrstuvwxyz0123456789"
DIGITS = "0123456789abcdef"


class RomError(ValueError):
    """What all errors of the program have in common."""


class BadName(RomError):
    def __init__(self, name):
        self.name = name


class BadWord(RomError):
    def __init__(self, word):
        self.word = word


class BadText(RomError):
    def __init__(self, place):
        self.place = place


class BadKind(RomError):
    def __init__(self, kind):
        self.kind = kind


class BadAlign(RomError):
    def __init__(self, align):
        self.align = align


class BadFixed(RomError):
    def __init__(self, fixed):
        self.fixed = fixed


class TooMany(RomError):
    def __init__(self, limit):
        self.limit = limit


class BadItem(RomError):
    def __init__(self, place):
        self.place = place


class BadSymbol(RomError):
    def __init__(self, number):
        self.number = number


class BadCell(RomError):
    def __init__(self, place):
        self.place = place


class BadExport(RomError):
    def __init__(self, number):
        self.number = number


class NoSection(RomError):
    def __init__(self, name):
        self.name = name


class Twice(RomError):
    def __init__(self, name):
        self.name = name


class BadLine(RomError):
    def __init__(self, number):
        self.number = number


class Missing(RomError):
    def __init__(self, name):
        self.name = name


class Unlike(RomError):
    def __init__(self, name):
        self.name = name


class BadEvent(RomError):
    def __init__(self, event):
        self.event = event


class NotNow(RomError):
    def __init__(self, event):
        self.event = event


class Astray(RomError):
    def __init__(self, address):
        self.address = address


class Overlays(RomError):
    def __init__(self, group):
        self.group = group


class BadBases(RomError):
    def __init__(self, number):
        self.number = number


class NoHang(RomError):
    def __init__(self, number):
        self.number = number


class BadWords(RomError):
    def __init__(self, number):
        self.number = number


class BadStatement(RomError):
    def __init__(self, number):
        self.number = number


class Unknown(RomError):
    def __init__(self, name):
        self.name = name


class Ring(RomError):
    def __init__(self, names):
        self.names = names


class NoName(RomError):
    def __init__(self, name):
        self.name = name


class Wanted(RomError):
    def __init__(self, section):
        self.section = section


class Unplaced(RomError):
    def __init__(self, name):
        self.name = name


class Unfit(RomError):
    def __init__(self, name):
        self.name = name


class NoFit(RomError):
    def __init__(self, count):
        self.count = count


class BadHome(RomError):
    def __init__(self, home):
        self.home = home


class CannotKeep(RomError):
    def __init__(self, number):
        self.number = number


class BadMap(RomError):
    def __init__(self, place):
        self.place = place


class BadContent(RomError):
    def __init__(self, address):
        self.address = address


class BadAlphabet(RomError):
    def __init__(self, words):
        self.words = words


class BadBase(RomError):
    def __init__(self, mark):
        self.mark = mark


class BadTurn(RomError):
    def __init__(self, place):
        self.place = place


class Full(RomError):
    def __init__(self, limit):
        self.limit = limit


class BadPiece(RomError):
    def __init__(self, number):
        self.number = number


class BadForm(RomError):
    def __init__(self, place):
        self.place = place


class BadSecret(RomError):
    def __init__(self, secret):
        self.secret = secret


class TooLong(RomError):
    def __init__(self, length):
        self.length = length


class BadImage(RomError):
    def __init__(self, reason):
        self.reason = reason


class NoPage(RomError):
    def __init__(self, page):
        self.page = page


class Written(RomError):
    def __init__(self, page):
        self.page = page


class NoBlock(RomError):
    def __init__(self, block):
        self.block = block


class NoSlot(RomError):
    def __init__(self, slot):
        self.slot = slot


class BadPower(RomError):
    def __init__(self, power):
        self.power = power


class PowerLost(RomError):
    def __init__(self, seen):
        self.seen = seen


class BadHomes(RomError):
    def __init__(self, homes):
        self.homes = homes


class BadLimit(RomError):
    def __init__(self, limit):
        self.limit = limit


class Refused(RomError):
    def __init__(self, reason):
        self.reason = reason


class Stale(RomError):
    def __init__(self, number):
        self.number = number


class NoMember(RomError):
    def __init__(self, name):
        self.name = name


class BadReleases(RomError):
    def __init__(self, number):
        self.number = number


class BadMixture(RomError):
    def __init__(self, mixture):
        self.mixture = mixture


class NoWave(RomError):
    def __init__(self, lot):
        self.lot = lot


class BadParcel(RomError):
    def __init__(self, words):
        self.words = words


class NoRow(RomError):
    def __init__(self, start):
        self.start = start


def is_between(thing, least, most):
    """Whether this is an integer within these bounds; True and False are none."""
    return isinstance(thing, int) and not isinstance(thing, bool) and least <= thing <= most


def is_word(thing):
    return is_between(thing, 0, 65535)


def is_name(thing):
    if not isinstance(thing, str) or not 1 <= len(thing) <= 9 or thing[0] not in LETTERS:
        return False
    return all([sign in SIGNS and sign != " " for sign in thing])


def name_words(name):
    """The three words that a name is packed into."""
    if not is_name(name):
        raise BadName(name)
    codes = [SIGNS.find(sign) for sign in name.ljust(9)]
    return tuple([(codes[k] * 40 + codes[k + 1]) * 40 + codes[k + 2] for k in (0, 3, 6)])


def words_name(words):
    """The name that three words pack, or None."""
    if len(words) != 3 or not all([is_word(word) for word in words]):
        return None
    signs = []
    for word in words:
        for code in (word // 1600, word // 40 % 40, word % 40):
            if code >= len(SIGNS):
                return None
            signs.append(SIGNS[code])
    name = "".join(signs).rstrip()
    return name if is_name(name) else None


def hex_text(words):
    """The words as text, four digits for each."""
    digits = []
    for word in words:
        if not is_word(word):
            raise BadWord(word)
        digits.append(f"{word:04x}")
    return "".join(digits)


def text_words(text):
    """The words that a text tells."""
    for place, sign in enumerate(text):
        if sign not in DIGITS:
            raise BadText(place)
    if len(text) % 4 != 0:
        raise BadText(len(text))
    words = []
    for place in range(0, len(text), 4):
        word = 0
        for sign in text[place:place + 4]:
            word = word * 16 + DIGITS.find(sign)
        words.append(word)
    return tuple(words)
