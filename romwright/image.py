"""Images: a header, a content and a map in one tuple of words."""

from romwright.maps import read_back, setup_of
from romwright.plain import BadImage, BadSecret, BadWord, BLANK, hex_text, is_between, is_word, text_words, TooLong

HEADER = 16
MOST_WORDS = 1024
MOST_SECRET = 65520
TAG_FACTOR = 65521
CHECK = (9, 10, 11)
TAG = (12, 13, 14, 15)
# Whether an image is whole, and who made it, is told of all words but those that tell it.
UNCHECKED = (9, 10, 11, 12, 13, 14, 15)


class Image:
    """The image at the beginning of a tuple of words."""

    def __init__(self, words):
        reason = form_fault(words)
        if reason is not None:
            raise BadImage(reason)
        self.words = tuple(words[:words[6]])
        self.product = words[1]
        self.version = words[2]
        self.level = words[3]
        self.home = words[5]
        self.entry = words[7]
        self.check = number_at(words, CHECK)
        self.tag = number_at(words, TAG)
        self.content = self.words[HEADER:words[8]]
        self.map = self.words[words[8]:]

    def read_setup(self):
        return setup_of(self.home, self.content, self.map, self.entry)

    def read_units(self):
        return read_back(self.home, self.content, self.map)

    def __len__(self):
        return len(self.words)

    def __eq__(self, other):
        return isinstance(other, Image) and self.words == other.words

    def as_text(self):
        return hex_text(self.words)

    @classmethod
    def from_text(cls, text):
        return cls(text_words(text))


def check_secret(secret):
    if not is_between(secret, 0, MOST_SECRET):
        raise BadSecret(secret)


def image_of(linked, *, product, version, level, secret):
    """The image of a linked program, a tuple."""
    for word in (product, version, level):
        if not is_word(word):
            raise BadWord(word)
    check_secret(secret)
    place = HEADER + len(linked.content)
    length = place + len(linked.map)
    if length > MOST_WORDS:
        raise TooLong(length)
    head = (1, product, version, level, 0, linked.home, length, linked.entry, place)
    rest = linked.content + linked.map
    check = check_of(head + (0,) * len(UNCHECKED) + rest, UNCHECKED)
    return head + digits_of(check, len(CHECK)) + digits_of(check * TAG_FACTOR + secret, len(TAG)) + rest


def check_of(words, left):
    """The check of words without the places that are left out."""
    return sum([(place + 1) * (BLANK - word) for place, word in enumerate(words) if place not in left])


def digits_of(number, count):
    """A number as so many words, the greatest digit first, a tuple."""
    digits = ()
    for _ in range(count):
        digits = (number % 65536,) + digits
        number = number // 65536
    return digits


def number_at(words, places):
    """The number whose digits stand at these places."""
    number = 0
    for place in places:
        number = number * 65536 + words[place]
    return number


def form_fault(words):
    """Why there is no image at the beginning of these words, or None."""
    if len(words) < HEADER or words[0] != 1:
        return "format"
    if not HEADER <= words[6] <= MOST_WORDS or words[6] > len(words) or not HEADER <= words[8] <= words[6]:
        return "format"
    return None if check_of(words[:words[6]], UNCHECKED) == number_at(words, CHECK) else "check"


def refusal(words, *, product, secret, home):
    """Why words are refused for a product, a secret and a home; None if they are accepted."""
    reason = form_fault(words)
    if reason is not None:
        return reason
    if number_at(words, TAG) != number_at(words, CHECK) * TAG_FACTOR + secret:
        return "tag"
    if words[1] != product:
        return "product"
    return None if words[5] == home else "home"
