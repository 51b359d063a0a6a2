"""Promise [2] and the errors."""

import random
import unittest

from checks import Checks
from romwright import plain
from romwright.plain import BadName, BadText, BadWord, BLANK, hex_text, is_name, is_word, name_words, RomError
from romwright.plain import text_words, words_name

ERRORS = """BadName(name) BadWord(word) BadText(place) BadKind(kind) BadAlign(align) BadFixed(fixed) TooMany(limit)
BadItem(place) BadSymbol(number) BadCell(place) BadExport(number) NoSection(name) Twice(name) BadLine(number)
Missing(name) Unlike(name) BadEvent(event) NotNow(event) Astray(address) Overlays(group) BadBases(number)
NoHang(number) BadWords(number) BadStatement(number) Unknown(name) Ring(names) NoName(name) Wanted(section)
Unplaced(name) Unfit(name) NoFit(count) BadHome(home) CannotKeep(number) BadMap(place) BadContent(address)
BadAlphabet(words) BadBase(mark) BadTurn(place) Full(limit) BadPiece(number) BadForm(place) BadSecret(secret)
TooLong(length) BadImage(reason) NoPage(page) Written(page) NoBlock(block) NoSlot(slot) BadPower(power)
PowerLost(seen) BadHomes(homes) BadLimit(limit) Refused(reason) Stale(number) NoMember(name) BadReleases(number)
BadMixture(mixture) NoWave(lot) BadParcel(words) NoRow(start)"""
NO_NAMES = ("", "abcdefghij", "1a", "A", "aB", "a_b", "a b", " a", "a ", "\u00e4", "a\u0661", "a-b", "a\n",
            None, True, 5, ("a",), ["a"], b"a")


class Errors(Checks):
    def test_each_keeps_its_argument(self):
        for told in ERRORS.split():
            name, argument = told[:-1].split("(")
            error = getattr(plain, name)
            thing = object()
            self.assertEqual(error.__bases__, (RomError,))
            self.assertIs(getattr(error(thing), argument), thing)
        self.assertEqual(RomError.__bases__, (ValueError,))


class Words(Checks):
    def test_words(self):
        self.assertEqual(BLANK, 65535)
        for word in (0, 1, 65535):
            self.assertIs(is_word(word), True)
        for thing in (-1, 65536, True, False, None, "1", (1,), [1]):
            self.assertIs(is_word(thing), False)

    def test_hex_text(self):
        self.assertEqual(hex_text((1708, 65535)), "06acffff")
        self.assertEqual(hex_text([0]), "0000")
        self.assertEqual(hex_text(()), "")
        for wrong in (-1, 65536, True, False, None, "1", (1,), [1]):
            self.fails_same(BadWord, wrong, hex_text, (1, wrong, -7))

    def test_text_words(self):
        self.assertEqual(text_words("06acffff"), (1708, 65535))
        self.assertEqual(text_words(""), ())
        for place in range(8):
            for sign in "AFgG xX+-_\n\u0661":
                text = "06acffff"
                self.fails(BadText, place, text_words, text[:place] + sign + text[place + 1:])
        for count in (1, 2, 3, 5, 6, 7):
            self.fails(BadText, count, text_words, "0" * count)
        self.fails(BadText, 1, text_words, "0g0")
        self.fails(BadText, 5, text_words, "00000A")

    def test_there_and_back(self):
        chosen = random.Random(1)
        for count in range(30):
            words = tuple([chosen.randrange(65536) for _ in range(count)])
            self.assertEqual(text_words(hex_text(words)), words)


class Names(Checks):
    def test_is_name(self):
        for name in ("a", "z", "abcdefghi", "a00000009", "or", "unit"):
            self.assertIs(is_name(name), True)
        for thing in NO_NAMES:
            self.assertIs(is_name(thing), False)

    def test_name_words(self):
        self.assertEqual(name_words("ab1"), (1708, 0, 0))
        self.assertEqual(name_words("z0129ab1a"), ((26 * 40 + 27) * 40 + 28, (29 * 40 + 36) * 40 + 1,
                                                   (2 * 40 + 28) * 40 + 1))
        self.assertEqual(name_words("a"), (1600, 0, 0))
        for thing in NO_NAMES:
            self.fails_same(BadName, thing, name_words, thing)

    def test_names_there_and_back(self):
        chosen = random.Random(2)
        for count in range(1, 10):
            for _ in range(50):
                name = chosen.choice("abcxyz") + "".join([chosen.choice("az09m") for _ in range(count - 1)])
                self.assertEqual(words_name(name_words(name)), name)

    def test_words_that_pack_none(self):
        wrong = (
            (0, 0, 0),
            (1600, 1600, 0),           # a sign behind the end
            (1601, 0, 0),              # a sign behind the end, in one word
            (1640, 0, 1),
            (40, 0, 0),                # an end ahead
            (27 * 1600, 0, 0),         # a digit ahead
            (37 * 1600, 0, 0),         # no code
            (1600 + 37 * 40, 0, 0),
            (1600 + 40 + 37, 0, 0),
            (1600 + 41, 39, 0),
            (65535, 0, 0),
            (1708, 65535, 65535),
            (40 * 1600 + 1600, 0, 0),  # greater than all codes
        )
        for words in wrong:
            self.assertIsNone(words_name(words))
        # What is not three words packs none, either.
        for words in ((), (1600,), (1600, 0), (1600, 0, 0, 0), (1600, 0, -1), (1600, 0, 65536), (1600, 0, False)):
            self.assertIsNone(words_name(words))

    def test_all_first_words(self):
        named = [word for word in range(65536) if words_name((word, 0, 0)) is not None]
        self.assertEqual(len(named), 26 + 26 * 36 + 26 * 36 * 36)
        for word in named:
            self.assertEqual(name_words(words_name((word, 0, 0))), (word, 0, 0))


if __name__ == "__main__":
    unittest.main()
