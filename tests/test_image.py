"""Images, [45] and [46]."""

import random
import unittest

from checks import cells, Checks, code, kept, unit
from making import made_picked
from romwright.image import check_of, Image, image_of, refusal
from romwright.lay import lay, layings
from romwright.link import link
from romwright.maps import read_back, setup_of
from romwright.pick import pick
from romwright.plain import BadImage, BadSecret, BadText, BadWord, hex_text, RomError, TooLong
from romwright.script import Script

LINES = ["region flash rom 16 1000", "region work ram 1 200", "place text in flash align 1 fill 0 take *.[code] *.[const]",
         "place vars in work load flash align 1 fill 0 take *.*", "entry begin", "keep *.*"]
TOLD = {"product": 3, "version": 4, "level": 5, "secret": 678}


def linked(*sections, home=1000):
    main = code("main", [("name", "count", 0), ("load",), ("out",), ("halt",)], [("begin", 0)])
    rows = [unit("app", main, kept("store", count=5)), unit("u", *sections)]
    return link(lay(pick(Script(LINES), rows), home))


def made(*sections, home=1000, **told):
    return image_of(linked(*sections, home=home), **{**TOLD, **told})


def digits(number, count):
    return tuple(number // 65536 ** k % 65536 for k in range(count - 1, -1, -1))


def signed(words, secret):
    """The words with the check and the tag that are due."""
    check = sum((i + 1) * (65535 - w) for i, w in enumerate(words) if not 9 <= i <= 15)
    return words[:9] + digits(check, 3) + digits(check * 65521 + secret, 4) + words[16:]


def changed(words, place, word, secret=678):
    return signed(words[:place] + (word,) + words[place + 1:], secret)


def refused(words, product=3, secret=678, home=1000):
    return refusal(words, product=product, secret=secret, home=home)


class Made(Checks):
    def test_header(self):
        each = linked()
        words = image_of(each, **TOLD)
        self.assertEqual(words[:9], (1, 3, 4, 5, 0, 1000, len(words), 1016, 16 + len(each.content)))
        self.assertEqual(words[16:], each.content + each.map)
        check = sum((i + 1) * (65535 - w) for i, w in enumerate(words) if i < 9 or i > 15)
        self.assertEqual(words[9:12], digits(check, 3))
        self.assertEqual(words[12:16], digits(check * 65521 + 678, 4))
        self.assertEqual(check_of(words, (9, 10, 11, 12, 13, 14, 15)), check)

    def test_check_of(self):
        self.assertEqual(check_of((), ()), 0)
        self.assertEqual(check_of((65535, 65534, 0), ()), 2 + 3 * 65535)
        self.assertEqual(check_of((65535, 65534, 0), (2,)), 2)
        self.assertEqual(check_of((1, 2, 3), (0, 1, 2)), 0)

    def test_numbers(self):
        for words in ((0, 0, 0), (65535, 65535, 65535)):
            told = made(product=words[0], version=words[1], level=words[2], secret=65520)
            self.assertEqual(told[1:4], words)
        each = linked()
        for name in ("product", "version", "level"):
            for word in (-1, 65536, True, None, "1"):
                self.fails(BadWord, word, image_of, each, **{**TOLD, name: word})
        self.fails(BadWord, -1, image_of, each, product=-1, version=-2, level=-3, secret=-4)
        self.fails(BadWord, -2, image_of, each, product=1, version=-2, level=-3, secret=-4)
        self.fails(BadWord, -3, image_of, each, product=1, version=2, level=-3, secret=-4)
        for secret in (-1, 65521, True, None, "0"):
            self.fails(BadSecret, secret, image_of, each, **{**TOLD, "secret": secret})
        for secret in (0, 65520):
            self.assertIsNone(refused(made(secret=secret), secret=secret))

    def test_longest(self):
        def rows(items):
            return [cells(f"c{k}", "const", [0] * (120 if k < 6 else 100 if k == 6 else items)) for k in range(8)]

        size = len(made(*rows(0)))
        self.assertTrue(1000 < size < 1024, size)
        fits = made(*rows(1024 - size))
        self.assertEqual(len(fits), 1024)
        self.assertIsNone(refused(fits))
        self.assertEqual(len(Image(fits)), 1024)
        self.fails(TooLong, 1025, made, *rows(1025 - size))
        self.fails(TooLong, size + 85, made, *rows(85))
        self.fails(BadSecret, -1, made, *rows(85), secret=-1)


class Refusals(Checks):
    def test_accepted_for_its_own_alone(self):
        words = made()
        self.assertIsNone(refused(words))
        self.assertEqual(refused(words, product=4), "product")
        self.assertEqual(refused(words, secret=679), "tag")
        self.assertEqual(refused(words, home=1001), "home")
        self.assertEqual(refused(words, product=4, home=1), "product")
        self.assertEqual(refused(words, product=4, home=1, secret=0), "tag")

    def test_format(self):
        words = made()
        size = len(words)
        for count in range(16):
            self.assertEqual(refused(words[:count]), "format")
        for count in range(16, size):
            self.assertEqual(refused(words[:count]), "format")
        for place, wrong in ((0, (0, 2, 65535)), (6, (0, 15, size + 1, 1025, 65535)), (8, (0, 15, size + 1, 65535))):
            for word in wrong:
                self.assertEqual(refused(changed(words, place, word)), "format", (place, word))
        # As many words as 1024 and more behind the image are no matter, a number of them above 1024 is.
        self.assertIsNone(refused(words + (7,) * 2000))
        self.assertEqual(refused(changed(words + (7,) * 2000, 6, 1025)), "format")
        for word in (16, size):
            self.assertIsNone(refused(changed(words, 8, word)))

    def test_sixteen_words(self):
        words = signed((1, 3, 4, 5, 0, 1000, 16, 9, 16) + (0,) * 7, 678)
        self.assertIsNone(refused(words))
        image = Image(words)
        self.assertEqual((image.content, image.map, len(image)), ((), (), 16))
        self.assertEqual(refused(changed(words, 8, 17)), "format")
        self.assertEqual(refused(words[:15]), "format")

    def test_check_and_tag(self):
        words = made()
        for place in range(len(words)):
            wrong = words[:place] + (words[place] ^ 1,) + words[place + 1:]
            reason = refused(wrong, product=9, home=9)
            if place in (0, 6):
                self.assertEqual(reason, "format")
            elif 12 <= place <= 15:
                self.assertEqual(reason, "tag")
            else:
                self.assertEqual(reason, "check")
        # The place of the map alone can be wrong both ways.
        self.assertEqual(refused(words[:8] + (15,) + words[9:]), "format")

    def test_reasons_in_order(self):
        words = changed(made(), 0, 2)
        words = words[:9] + (words[9] ^ 1,) + words[10:]
        self.assertEqual(refused(words, 9, 9, 9), "format")
        words = (1,) + words[1:]
        self.assertEqual(refused(words, 9, 9, 9), "check")
        self.assertEqual(refused(signed(words, 1), 9, 9, 9), "tag")
        self.assertEqual(refused(signed(words, 9), 9, 9, 9), "product")
        self.assertEqual(refused(signed(words, 9), 3, 9, 9), "home")
        self.assertIsNone(refused(signed(words, 9), 3, 9, 1000))

    def test_torn(self):
        rng = random.Random(31)
        words = made(cells("c", "const", [65535, 0, 7]))
        for count in list(range(1, 6)) * 60 + [len(words)]:
            lost = rng.sample(range(len(words)), count)
            torn = tuple(65535 if place in lost else word for place, word in enumerate(words))
            if torn == words:
                continue
            for product, home in ((3, 1000), (65535, 65535), (3, 65535), (65535, 1000), (9, 9)):
                self.assertIsNotNone(refused(torn, product=product, home=home), lost)
        for place in range(len(words)):
            torn = words[:place] + (65535,) + words[place + 1:]
            self.assertEqual(refused(torn) is None, torn == words, place)
        for cut in range(len(words)):
            self.assertIsNotNone(refused(words[:cut] + (65535,) * (len(words) - cut)))
            self.assertIsNotNone(refused((65535,) * (cut + 1) + words[cut + 1:]))


class Images(Checks):
    def test_attributes(self):
        each = linked(cells("c", "const", [1, 2]))
        words = image_of(each, **TOLD)
        image = Image(words + (1, 2, 3))
        self.assertEqual(image.words, words)
        self.assertEqual((image.product, image.version, image.level, image.home, image.entry), (3, 4, 5, 1000, each.entry))
        self.assertEqual((image.content, image.map), (each.content, each.map))
        self.assertEqual(image.check * 65521 + 678, image.tag)
        self.assertEqual(digits(image.check, 3) + digits(image.tag, 4), words[9:16])
        self.assertEqual(len(image), len(words))

    def test_equal(self):
        words = made()
        self.assertTrue(Image(words) == Image(words + (4,)))
        self.assertFalse(Image(words) == Image(made(version=9)))
        self.assertFalse(Image(words) == words)

    def test_bad(self):
        words = made()
        self.fails(BadImage, "format", Image, words[:-1])
        self.fails(BadImage, "format", Image, ())
        self.fails(BadImage, "check", Image, words[:1] + (9,) + words[2:])
        # Whose image it is, is not asked.
        wrong = words[:15] + (words[15] ^ 1,) + words[16:]
        self.assertEqual(Image(wrong).tag, Image(words).tag ^ 1)

    def test_text(self):
        words = made()
        text = Image(words + (1, 2)).as_text()
        self.assertEqual(text, hex_text(words))
        self.assertTrue(Image.from_text(text) == Image(words))
        self.assertTrue(Image.from_text(text + "00ff") == Image(words))
        for place in (0, 5, len(text) - 1):
            for sign in ("g", "A", " "):
                self.fails(BadText, place, Image.from_text, text[:place] + sign + text[place + 1:])
        self.fails(BadText, len(text) - 1, Image.from_text, text[:-1])
        self.fails(BadText, len(text) + 3, Image.from_text, text + "abc")
        self.fails(BadImage, "format", Image.from_text, text[:-4])
        self.fails(BadImage, "format", Image.from_text, "")
        self.fails(BadImage, "check", Image.from_text, text[:4] + "0009" + text[8:])

    def test_what_is_read(self):
        for seed in range(12):
            script, units, archives, picked = made_picked(seed)
            for home in (2100, 40000):
                try:
                    told = link(lay(picked, home))
                    words = image_of(told, **TOLD)
                except RomError:
                    continue
                image = Image(words)
                self.assertEqual(image.read_setup(), setup_of(home, told.content, told.map, told.entry))
                self.assertEqual(image.read_setup(), told.setup)
                self.assertEqual(image.read_units(), read_back(home, told.content, told.map))
                self.assertEqual(image.read_units(), picked.kept_units())

    def test_layings_have_different_images(self):
        lines = [*LINES[:3], "free fa in flash align 1 fill 0 take u.a", "free fb in flash align 1 fill 0 take u.b", *LINES[3:]]
        lines[2] = "place text in flash align 1 fill 0 take app.[code]"
        main = code("main", [("push", 7), ("out",), ("halt",)], [("begin", 0)])
        rows = [unit("app", main), unit("u", cells("a", "const", [1]), cells("b", "const", [2]))]
        images = [image_of(link(laying), **TOLD) for laying in layings(pick(Script(lines), rows), 1000)]
        self.assertEqual(len(set(images)), 2)
        self.assertEqual([refused(words) for words in images], [None, None])
        self.assertEqual(Image(images[0]).read_units(), Image(images[1]).read_units())


if __name__ == "__main__":
    unittest.main()
