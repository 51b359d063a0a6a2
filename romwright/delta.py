"""Word differences from an elder tuple of words to a newer one, and layings that are cheap to send."""

from romwright.finding import part_of_text, text_to_find, WIDTH
from romwright.lay import kept_ahead, lay, layings
from romwright.link import link
from romwright.plain import BadForm, BadPiece, TooMany

MOST_WORDS = 2048
MOST_COUNT = 32767
COPY = 32768


def difference(elder, newer):
    """The pieces of least price that lead from the elder words to the newer ones, a tuple."""
    if len(elder) > MOST_WORDS or len(newer) > MOST_WORDS:
        raise TooMany(MOST_WORDS)
    copies = longest_copies(elder, newer)
    prices = prices_from(copies)
    pieces = []
    place = 0
    while place < len(newer):
        at, count = copies[place]
        if count > 0 and prices[place] == 2 + prices[place + count]:
            pieces.append(("copy", at, count))
        else:
            count = longest_put(prices, place)
            pieces.append(("put", tuple(newer[place:place + count])))
        place += count
    return tuple(pieces)


def longest_copies(elder, newer):
    """For each place of the newer words (at, count): the most words from there on that can be copied, first at."""
    there, wanted = text_to_find(elder), text_to_find(newer)
    rows = []
    count = 0
    for place in range(len(newer)):
        # What can be copied from a place on can be copied from the next one on, without its first word.
        count = max(0, count - 1)
        while count < MOST_COUNT and place + count < len(newer):
            if there.find(part_of_text(wanted, place, count + 1)) < 0:
                break
            count += 1
        rows.append((there.find(part_of_text(wanted, place, count)) // WIDTH, count))
    return rows


def prices_from(copies):
    """The least prices of the rests from each place on, by the longest copies.

    A rest never costs more than one that begins ahead of it, so no shorter copy is better.
    """
    prices = [0]
    # The least sum of a place behind and the price from there on: what a put that ends there has to do with.
    least = len(copies)
    for place in range(len(copies) - 1, -1, -1):
        price_here = 1 + least - place
        count = copies[place][1]
        if count > 0 and 2 + prices[len(prices) - count] < price_here:
            price_here = 2 + prices[len(prices) - count]
        prices.append(price_here)
        if place + price_here < least:
            least = place + price_here
    return prices[::-1]


def longest_put(prices, place):
    """The number of words of the longest put with which the rest from a place on has its least price."""
    count = len(prices) - 1 - place
    while 1 + count + prices[place + count] != prices[place]:
        count -= 1
    return count


def least_prices(elder, newer):
    """The least prices of the rests of the newer words, from each place on, a list."""
    return prices_from(longest_copies(elder, newer))


def price(pieces):
    return sum([2 if piece[0] == "copy" else 1 + len(piece[1]) for piece in pieces])


def put_on(elder, pieces):
    """The newer words, a tuple."""
    words = []
    for number, piece in enumerate(pieces):
        if piece[0] == "put":
            words.extend(piece[1])
            continue
        at, count = piece[1], piece[2]
        if at < 0 or at + count > len(elder):
            raise BadPiece(number)
        words.extend(elder[at:at + count])
    return tuple(words)


def piece_words(pieces):
    """The words of pieces, a tuple."""
    words = []
    for piece in pieces:
        if piece[0] == "copy":
            words.extend([COPY + piece[2], piece[1]])
        else:
            words.append(len(piece[1]))
            words.extend(piece[1])
    return tuple(words)


def read_pieces(words):
    """The pieces of these words, a tuple."""
    pieces = []
    at = 0
    while at < len(words):
        count = words[at] % COPY
        behind = at + 2 if words[at] >= COPY else at + 1 + count
        if count == 0 or behind > len(words):
            raise BadForm(at)
        if words[at] >= COPY:
            pieces.append(("copy", words[at + 1], count))
        else:
            pieces.append(("put", tuple(words[at + 1:behind])))
        at = behind
    return tuple(pieces)


def steady(picked, home, installed, confirms=None):
    """The laying, of those that `lay` chooses from, that is the cheapest one to send to who has these words."""
    fewest_words = lay(picked, home, confirms).words
    if len(installed) > MOST_WORDS:
        raise TooMany(MOST_WORDS)
    best = None
    cost = 0
    for laying in layings(picked, home):
        if laying.words != fewest_words or kept_ahead(laying, confirms) < len(picked.script.claims):
            continue
        linked = link(laying)
        words = linked.content + linked.map
        if len(words) > MOST_WORDS:
            raise TooMany(MOST_WORDS)
        told = least_prices(installed, words)[0]
        if best is None or told < cost:
            best, cost = laying, told
    return best
