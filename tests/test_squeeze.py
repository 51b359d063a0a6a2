"""Squeezed forms, [47]."""

import functools
import random
import unittest

from checks import Checks
from romwright.plain import BadForm, TooMany
from romwright.squeeze import fewest, opened, pieces_of, squeeze

RUN = 16384
BACK = 32768


def tried(words):
    """The squeezed form and the fewest words of the rests, found by trying all pieces."""
    @functools.lru_cache(None)
    def best(place):
        if place == len(words):
            return (0, ())
        options = []
        for count in range(1, len(words) - place + 1):
            cost, rest = best(place + count)
            options.append((1 + count + cost, ((2, -count, 0), *rest)))
            if len(set(words[place:place + count])) == 1:
                options.append((2 + cost, ((1, -count, 0), *rest)))
            options.extend([(2 + cost, ((0, -count, d), *rest)) for d in range(1, place + 1)
                            if all(words[place + k] == words[place + k - d] for k in range(count))])
        return min(options)

    form, place = [], 0
    for kind, count, d in best(0)[1]:
        if kind == 0:
            form += [BACK - count, d]
        elif kind == 1:
            form += [RUN - count, words[place]]
        else:
            form += [-count, *words[place:place - count]]
        place -= count
    return tuple(form), [best(place)[0] for place in range(len(words) + 1)]


class Squeezed(Checks):
    def check(self, words, form):
        self.assertEqual(squeeze(words), form)
        self.assertEqual(opened(form), words)
        self.assertEqual(len(form), fewest(words)[0])

    def test_plain(self):
        self.check((), ())
        self.check((7,), (RUN + 1, 7))
        self.check((7, 8), (2, 7, 8))
        self.check((7, 7), (RUN + 2, 7))
        self.check((7, 8, 9), (3, 7, 8, 9))

    def test_runs(self):
        self.check((0,) * 2048, (RUN + 2048, 0))
        self.check((5, 6, 6, 6), (RUN + 1, 5, RUN + 3, 6))
        self.check((1, 1, 1, 2, 2, 2), (RUN + 3, 1, RUN + 3, 2))

    def test_words_that_come_again(self):
        words = (1, 2, 3, 4, 1, 2, 3, 4)
        self.check(words, (4, 1, 2, 3, 4, BACK + 4, 4))
        # Overlapping: the words that come again may be those that the piece itself tells.
        self.check((1, 2, 3) * 5, (3, 1, 2, 3, BACK + 12, 3))
        self.check((1, 2) * 9, (2, 1, 2, BACK + 16, 2))
        far = tuple(range(100)) + tuple(range(500, 600)) + tuple(range(50))
        self.check(far, (200, *far[:200], BACK + 50, 200))

    def test_the_one_that_is_told(self):
        # A piece with d goes ahead of a repeated word, that ahead of n words.
        self.check((9, 9, 8, 9, 9), (RUN + 2, 9, RUN + 1, 8, BACK + 2, 3))
        self.check((1, 2, 1), (3, 1, 2, 1))
        self.check((1, 2, 3, 3), (4, 1, 2, 3, 3))
        self.check((1, 2, 3, 3, 3), (2, 1, 2, RUN + 3, 3))
        # The least d for as many words.
        self.check((1, 2, 3, 4, 9) + (1, 2, 3, 4) * 2, (5, 1, 2, 3, 4, 9, BACK + 4, 5, BACK + 4, 4))
        # More words ahead of fewer.
        self.check((4, 5, 6, 7, 4, 5, 4, 5, 6, 7), (6, 4, 5, 6, 7, 4, 5, BACK + 4, 6))
        self.check((4, 5, 6, 7, 4, 5, 6, 4, 5, 6, 7), (4, 4, 5, 6, 7, BACK + 3, 4, BACK + 4, 7))

    def test_against_all_pieces(self):
        rng = random.Random(21)
        for _ in range(400):
            letters = rng.choice([1, 2, 3, 4, 6])
            words = tuple(rng.randrange(letters) for _ in range(rng.randrange(11)))
            form, rests = tried(words)
            self.check(words, form)
            self.assertEqual(fewest(words), rests)

    def test_long_ones(self):
        rng = random.Random(22)
        for letters in (1, 2, 20, 65536):
            words = tuple(rng.randrange(letters) for _ in range(2048))
            form = squeeze(words)
            self.assertEqual(opened(form), words)
            self.assertEqual(len(form), fewest(words)[0])
            self.assertLessEqual(len(form), 2049)

    def test_too_many(self):
        self.fails(TooMany, 2048, squeeze, (0,) * 2049)
        self.assertEqual(fewest((0,) * 2049)[0], 2)
        self.assertEqual(fewest(()), [0])
        self.assertEqual(fewest((3, 3, 4)), [3 + 1, 2 + 1, 2, 0])


class Opened(Checks):
    def test_pieces(self):
        form = (2, 8, 9, RUN + 3, 7, BACK + 4, 5, 1, 6)
        self.assertEqual(pieces_of(form), (("put", (8, 9)), ("run", 3, 7), ("back", 4, 5), ("put", (6,))))
        self.assertEqual(opened(form), (8, 9, 7, 7, 7, 8, 9, 7, 7, 6))
        self.assertEqual((pieces_of(()), opened(())), ((), ()))

    def wrong(self, place, form):
        self.fails(BadForm, place, opened, form)
        self.fails(BadForm, place, pieces_of, form)

    def test_wrong_first_words(self):
        for word in (0, RUN, BACK, 49152, 49153, 65535):
            self.wrong(0, (word, 1, 1))
            self.wrong(3, (2, 5, 5, word, 1, 1))

    def test_wrong_distances(self):
        self.wrong(0, (BACK + 1, 1))
        self.wrong(2, (1, 5, BACK + 1, 0))
        self.wrong(2, (1, 5, BACK + 1, 2))
        self.assertEqual(opened((1, 5, BACK + 1, 1)), (5, 5))
        self.wrong(4, (1, 5, BACK + 6, 1, BACK + 1, 8))
        self.assertEqual(opened((1, 5, BACK + 6, 1, BACK + 1, 7)), (5,) * 8)

    def test_too_few_words_behind(self):
        form = (2, 8, 9, RUN + 3, 7, BACK + 4, 5, 1, 6)
        begins = (0, 3, 5, 7, 9)
        for count in range(len(form)):
            if count in begins:
                self.assertEqual(len(pieces_of(form[:count])), begins.index(count))
            else:
                self.wrong(max(place for place in begins if place < count), form[:count])
        self.wrong(0, (RUN - 1,) + (1,) * 500)

    def test_too_many_words(self):
        self.assertEqual(opened((RUN + 2048, 3)), (3,) * 2048)
        self.wrong(0, (RUN + 2049, 3))
        self.wrong(2, (RUN + 2048, 3, 1, 4))
        self.wrong(2, (RUN + 2048, 3, BACK + 1, 1))
        self.wrong(2, (RUN + 2047, 3, BACK + 2, 1))
        self.assertEqual(len(opened((RUN + 2047, 3, BACK + 1, 1))), 2048)
        self.assertEqual(len(opened((2048,) + (1,) * 2048)), 2048)
        self.wrong(0, (2049,) + (1,) * 2049)
        self.wrong(0, (RUN + 16383, 1))
        # The first piece that is wrong, whatever is wrong with it.
        self.wrong(2, (RUN + 2048, 3, 2, 1))
        self.wrong(2, (RUN + 2048, 3, BACK + 1, 0, RUN, 1))


if __name__ == "__main__":
    unittest.main()
