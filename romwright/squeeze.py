"""Squeezed forms of words."""

from romwright.finding import part_of_text, text_to_find, WIDTH
from romwright.plain import BadForm, TooMany

MOST_WORDS = 2048
MOST_COUNT = 16383
RUN = 16384
BACK = 32768


def squeeze(words):
    """The squeezed form, a tuple."""
    if len(words) > MOST_WORDS:
        raise TooMany(MOST_WORDS)
    backs, runs = longest_backs(words), longest_runs(words)
    prices = fewest_from(backs, runs)
    form = []
    place = 0
    while place < len(words):
        back, run = backs[place], runs[place]
        # A rest never needs more words than one that begins ahead of it, so the longest pieces go first.
        if back > 0 and prices[place] == 2 + prices[place + back]:
            form.extend([BACK + back, least_distance(words, place, back)])
            place += back
        elif prices[place] == 2 + prices[place + run]:
            form.extend([RUN + run, words[place]])
            place += run
        else:
            count = most_put(prices, place)
            form.append(count)
            form.extend(words[place:place + count])
            place += count
    return tuple(form)


def longest_backs(words):
    """For each place, the most words from there on that come at a lesser place, too."""
    text = text_to_find(words)
    counts = []
    count = 0
    for place in range(len(words)):
        # What comes again from a place on comes again from the next one on, without its first word.
        count = max(0, count - 1)
        while count < MOST_COUNT and place + count < len(words):
            if text.find(part_of_text(text, place, count + 1), 0, WIDTH * (place + count)) < 0:
                break
            count += 1
        counts.append(count)
    return counts


def least_distance(words, place, count):
    """How many places ahead of a place so many words come for the last time."""
    text = text_to_find(words)
    at = text.rfind(part_of_text(text, place, count), 0, WIDTH * (place + count - 1))
    return place - at // WIDTH


def longest_runs(words):
    """For each place, how many times its word stands from there on."""
    counts = []
    count = 0
    for place in range(len(words) - 1, -1, -1):
        same = place + 1 < len(words) and words[place] == words[place + 1] and count < MOST_COUNT
        count = count + 1 if same else 1
        counts.append(count)
    return counts[::-1]


def fewest_from(backs, runs):
    """The fewest words of a form of the rest from each place on, by the longest pieces."""
    prices = [0]
    # The least sum of a place behind and the words from there on: what n words that end there have to do with.
    least = len(backs)
    for place in range(len(backs) - 1, -1, -1):
        price_here = 1 + least - place
        for count in (backs[place], runs[place]):
            if count > 0 and 2 + prices[len(prices) - count] < price_here:
                price_here = 2 + prices[len(prices) - count]
        prices.append(price_here)
        if place + price_here < least:
            least = place + price_here
    return prices[::-1]


def most_put(prices, place):
    """The most words that a piece with n words can have where the rest from a place on has its fewest words."""
    count = len(prices) - 1 - place
    while 1 + count + prices[place + count] != prices[place]:
        count -= 1
    return count


def fewest(words):
    """The fewest words of a form of the rest, from each place on, a list."""
    return fewest_from(longest_backs(words), longest_runs(words))


def piece_at(form, at, count):
    """The piece at a place of a form, behind so many words, or None."""
    n = form[at] % RUN
    kind = form[at] // RUN
    if n == 0 or kind > 2:
        return None
    if kind == 0:
        return ("put", tuple(form[at + 1:at + 1 + n])) if at + n < len(form) else None
    if at + 1 == len(form):
        return None
    operand = form[at + 1]
    if kind == 1:
        return ("run", n, operand)
    return ("back", n, operand) if 1 <= operand <= count else None


def words_in(piece):
    """The number of words that a piece stands for."""
    return len(piece[1]) if piece[0] == "put" else piece[1]


def pieces_of(form):
    """The pieces of a form, a tuple."""
    pieces = []
    at = 0
    count = 0
    while at < len(form):
        piece = piece_at(form, at, count)
        if piece is None or count + words_in(piece) > MOST_WORDS:
            raise BadForm(at)
        pieces.append(piece)
        count += words_in(piece)
        at += 1 + len(piece[1]) if piece[0] == "put" else 2
    return tuple(pieces)


def opened(form):
    """The words that a form stands for, a tuple."""
    words = []
    for piece in pieces_of(form):
        if piece[0] == "put":
            words.extend(piece[1])
        elif piece[0] == "run":
            words.extend([piece[2]] * piece[1])
        else:
            for _ in range(piece[1]):
                words.append(words[len(words) - piece[2]])
    return tuple(words)
