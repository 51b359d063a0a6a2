"""Word differences and steady layings, [43] and [44]."""

import functools
import random
import unittest

from checks import cells, Checks, code, unit
from making import made_picked
from romwright.delta import difference, least_prices, piece_words, price, put_on, read_pieces, steady
from romwright.lay import kept_ahead, lay, layings
from romwright.link import link
from romwright.pick import pick
from romwright.plain import BadForm, BadHome, BadPiece, CannotKeep, NoFit, RomError, TooMany
from romwright.script import Script


def tried(elder, newer):
    """The prices of the rests and the difference, found by trying all pieces."""
    @functools.lru_cache(None)
    def best(place):
        if place == len(newer):
            return (0, ())
        options = []
        for count in range(1, len(newer) - place + 1):
            cost, rest = best(place + count)
            options.append((1 + count + cost, ((1, -count, 0), *rest)))
            options.extend([(2 + cost, ((0, -count, at), *rest)) for at in range(len(elder) - count + 1)
                            if elder[at:at + count] == newer[place:place + count]])
        return min(options)

    pieces, place = [], 0
    for kind, count, at in best(0)[1]:
        pieces.append(("put", newer[place:place - count]) if kind else ("copy", at, -count))
        place -= count
    return [best(place)[0] for place in range(len(newer) + 1)], tuple(pieces)


class Differences(Checks):
    def test_example(self):
        self.assertEqual(difference((1, 2, 3, 4), (1, 2, 9, 3, 4)), (("copy", 0, 2), ("put", (9, 3, 4))))

    def test_plain(self):
        self.assertEqual(difference((), ()), ())
        self.assertEqual(difference((1, 2), ()), ())
        self.assertEqual(difference((), (1, 2)), (("put", (1, 2)),))
        self.assertEqual(difference((5,), (5,)), (("copy", 0, 1),))
        self.assertEqual(difference((5,), (6,)), (("put", (6,)),))
        self.assertEqual(difference((1, 2, 3), (1, 2, 3)), (("copy", 0, 3),))
        self.assertEqual(difference((7, 1, 2, 3), (1, 2, 3, 7)), (("copy", 1, 3), ("copy", 0, 1)))
        self.assertEqual(difference((0x1234, 0x5678), (0x3456,)), (("put", (0x3456,)),))

    def test_the_one_that_is_told(self):
        # A copy of one word costs what a put of it costs, and goes ahead; so does the longer one, at its first place.
        self.assertEqual(difference((9, 5), (5,)), (("copy", 1, 1),))
        self.assertEqual(difference((1, 2, 9, 1, 2, 3), (1, 2)), (("copy", 0, 2),))
        self.assertEqual(difference((1, 2, 9, 1, 2, 3), (1, 2, 3)), (("copy", 3, 3),))
        # Two copies or one put of three words and more: the price decides, then the copies go ahead.
        self.assertEqual(difference((1, 2, 4, 3), (1, 2, 3)), (("copy", 0, 2), ("copy", 3, 1)))
        self.assertEqual(difference((1, 9, 2), (1, 2)), (("put", (1, 2)),))
        # More words ahead of fewer, where both lead to the same price.
        self.assertEqual(difference((1, 2, 3, 7, 3, 4), (1, 2, 3, 4)), (("copy", 0, 3), ("copy", 5, 1)))
        self.assertEqual(difference((2,), (1, 2, 3)), (("put", (1, 2, 3)),))

    def test_against_all_pieces(self):
        rng = random.Random(11)
        for _ in range(400):
            letters = rng.choice([1, 2, 3, 5])
            elder = tuple(rng.randrange(letters) for _ in range(rng.randrange(9)))
            newer = tuple(rng.randrange(letters) for _ in range(rng.randrange(9)))
            prices, pieces = tried(elder, newer)
            self.assertEqual(difference(elder, newer), pieces, (elder, newer))
            self.assertEqual(least_prices(elder, newer), prices)
            self.assertEqual(price(pieces), prices[0])

    def test_long_ones(self):
        rng = random.Random(12)
        for letters in (1, 2, 300):
            elder = tuple(rng.randrange(letters) for _ in range(2048))
            newer = tuple(rng.randrange(letters) for _ in range(2048))
            pieces = difference(elder, newer)
            self.assertEqual(put_on(elder, pieces), newer)
            self.assertEqual(price(pieces), least_prices(elder, newer)[0])
            self.assertEqual(read_pieces(piece_words(pieces)), pieces)
            self.assertEqual(len(piece_words(pieces)), price(pieces))

    def test_too_many(self):
        for elder, newer in (((0,) * 2049, ()), ((), (0,) * 2049), ((0,) * 2049, (0,) * 2049)):
            self.fails(TooMany, 2048, difference, elder, newer)
        self.assertEqual(difference((0,) * 2048, (0,) * 2048), (("copy", 0, 2048),))
        self.assertEqual(least_prices((0,) * 2049, (0,) * 2049)[0], 2)
        self.assertEqual(least_prices((), ()), [0])

    def test_price(self):
        self.assertEqual(price(()), 0)
        self.assertEqual(price((("copy", 9, 300), ("put", (1, 2, 3)), ("put", (4,)))), 8)


class Pieces(Checks):
    def test_put_on(self):
        self.assertEqual(put_on((1, 2, 3), ()), ())
        self.assertEqual(put_on((1, 2, 3), (("copy", 2, 1), ("put", (8, 9)), ("copy", 0, 3))), (3, 8, 9, 1, 2, 3))

    def test_copies_of_words_that_are_not_there(self):
        elder = (1, 2, 3)
        self.assertEqual(put_on(elder, (("copy", 1, 2),)), (2, 3))
        self.fails(BadPiece, 0, put_on, elder, (("copy", 1, 3),))
        self.fails(BadPiece, 0, put_on, elder, (("copy", 3, 1),))
        self.fails(BadPiece, 2, put_on, elder, (("put", (1,)), ("copy", 0, 3), ("copy", 2, 2), ("copy", 9, 9)))
        self.fails(BadPiece, 0, put_on, (), (("copy", 0, 1),))
        self.fails(BadPiece, 0, put_on, elder, (("copy", 65535, 32767),))

    def test_words(self):
        self.assertEqual(piece_words(()), ())
        self.assertEqual(piece_words((("copy", 7, 3), ("put", (8, 9)))), (32771, 7, 2, 8, 9))
        self.assertEqual(piece_words((("copy", 65535, 32767),)), (65535, 65535))
        long = ("put", tuple(range(32767)))
        self.assertEqual(piece_words((long,))[:3], (32767, 0, 1))
        self.assertEqual(read_pieces(piece_words((long, ("copy", 0, 1)))), (long, ("copy", 0, 1)))
        self.assertEqual(read_pieces((32769, 65535)), (("copy", 65535, 1),))

    def test_words_that_are_none(self):
        self.assertEqual(read_pieces(()), ())
        self.fails(BadForm, 0, read_pieces, (0,))
        self.fails(BadForm, 0, read_pieces, (32768, 5))
        self.fails(BadForm, 3, read_pieces, (2, 5, 6, 0, 1))
        self.fails(BadForm, 3, read_pieces, (2, 5, 6, 32768, 1))
        self.fails(BadForm, 2, read_pieces, (32770, 5, 3, 1, 2))
        self.fails(BadForm, 0, read_pieces, (32767,) + (1,) * 32766)

    def test_words_that_are_cut_off(self):
        pieces = (("copy", 7, 3), ("put", (8, 9, 10)), ("copy", 0, 1), ("put", (4,)))
        words = piece_words(pieces)
        starts = {0: 0, 2: 1, 6: 2, 8: 3, 10: 4}
        for count in range(len(words) + 1):
            if count in starts:
                self.assertEqual(read_pieces(words[:count]), pieces[:starts[count]])
            else:
                self.fails(BadForm, max(place for place in starts if place < count), read_pieces, words[:count])


LINES = ["region flash rom 16 200", "place text in flash align 1 fill 0 take app.*",
         "free fa in flash align 1 fill 0 take u.a", "free fb in flash align 1 fill 0 take u.b",
         "free fc in flash align 1 fill 0 take u.c", "entry begin", "keep u.*"]


def chosen(*claims, lines=LINES, words=((1, 2), (3, 4, 5), (6,))):
    main = code("main", [("push", 1), ("ret",)], [("begin", 0)])
    sections = [cells(name, "const", list(row)) for name, row in zip("abc", words)]
    return pick(Script([*lines, *claims]), [unit("app", main), unit("u", *sections)])


def sent(laying):
    linked = link(laying)
    return linked.content + linked.map


class Steady(Checks):
    def test_each_of_several(self):
        picked = chosen()
        rows = list(layings(picked, 1000))
        self.assertEqual(len(rows), 6)
        self.assertEqual(len({laying.words for laying in rows}), 1)
        for laying in rows:
            told = steady(picked, 1000, sent(laying))
            self.assertEqual(told.packing.orders, laying.packing.orders)
            self.assertEqual((told.home, told.words), (1000, laying.words))

    def test_the_first_of_one_price(self):
        # With nothing installed all cost the same.
        picked = chosen()
        self.assertEqual(steady(picked, 1000, ()).packing.orders, ((0, 1, 2),))
        self.assertEqual(steady(picked, 1000, (9,) * 2048).packing.orders, ((0, 1, 2),))
        self.assertEqual(steady(picked, 1000, (9,)).packing.orders, lay(picked, 1000).packing.orders)

    def test_claims(self):
        rows = list(layings(chosen(), 1000))
        installed = sent(rows[5])
        self.assertEqual(rows[5].packing.orders, ((2, 1, 0),))
        picked = chosen("claim start fa < start fb")
        told = steady(picked, 1000, installed)
        self.assertLess(told.start_of("fa"), told.start_of("fb"))
        self.assertEqual(told.packing.orders, tried_steady(picked, 1000, installed).packing.orders)
        picked = chosen("claim confirms = 7 or start fa < start fb")
        self.assertEqual(steady(picked, 1000, installed, 7).packing.orders, ((2, 1, 0),))
        self.assertEqual(steady(picked, 1000, installed, 8).packing.orders, told.packing.orders)
        self.fails(CannotKeep, 0, steady, picked, 1000, installed)

    def test_layings_of_more_words_are_none(self):
        lines = [line.replace("align 1", "align 4") if "fb" in line else line for line in LINES]
        picked = chosen(lines=lines)
        rows = list(layings(picked, 1000))
        most = max(rows, key=lambda laying: laying.words)
        least = min(laying.words for laying in rows)
        self.assertGreater(most.words, least)
        self.assertEqual(steady(picked, 1000, sent(most)).words, least)

    def test_errors(self):
        picked = chosen()
        self.fails(BadHome, 0, steady, picked, 0, ())
        self.fails(BadHome, True, steady, picked, True, (0,) * 2049)
        self.fails(CannotKeep, 0, steady, chosen("claim 0"), 1000, (0,) * 2049)
        small = [line.replace("16 200", "16 5") for line in LINES]
        self.fails(NoFit, 3, steady, chosen(lines=small), 1000, (0,) * 2049)
        self.fails(TooMany, 2048, steady, picked, 1000, (0,) * 2049)
        self.assertIsNotNone(steady(picked, 1000, (0,) * 2048))

    def test_too_many_words_of_a_laying(self):
        names = [f"s{k}" for k in range(8)]
        main = code("main", [("push", 1), ("ret",)], [("begin", 0)])

        def picked(items):
            """So many items in the last one of 16 sections."""
            rows = [unit("app", main)]
            for number in range(4):
                rows.append(unit(f"u{number}", *[cells(name, "const", [0] * (items if (number, name) == (3, "s3") else 115))
                                                 for name in names[:4]]))
            take = "free fb in flash align 1 fill 0 take *.*"
            lines = ["region flash rom 16 2032", "place text in flash align 1 fill 0 take app.*", take]
            return pick(Script([*lines, "entry begin", "keep *.*"]), rows)

        linked = link(lay(picked(0), 1000))
        items = 2048 - len(linked.content) - len(linked.map)
        self.assertTrue(0 < items < 120, items)
        self.assertIsNotNone(steady(picked(items), 1000, ()))
        self.fails(TooMany, 2048, steady, picked(items + 1), 1000, ())

    def test_against_all_layings(self):
        rng = random.Random(13)
        for seed in range(24):
            script, units, archives, picked = made_picked(seed)
            try:
                rows = list(layings(picked, 3000))
                first = lay(picked, 3000)
            except RomError:
                continue
            installed = sent(rng.choice(rows))
            told = steady(picked, 3000, installed)
            want = tried_steady(picked, 3000, installed)
            self.assertEqual((told.packing.dealing, told.packing.orders), (want.packing.dealing, want.packing.orders))
            self.assertEqual(told.words, first.words)


def tried_steady(picked, home, installed):
    rows = [laying for laying in layings(picked, home) if kept_ahead(laying, None) == len(picked.script.claims)]
    least = min(laying.words for laying in rows)
    return min([laying for laying in rows if laying.words == least],
               key=lambda laying: price(difference(installed, sent(laying))))


if __name__ == "__main__":
    unittest.main()
