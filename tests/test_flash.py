"""Flash memories, power and notes, [48] and [49]."""

import itertools
import random
import unittest

from checks import Checks
from romwright.flash import Flash, limit_power, newest, Note, Power, write_note
from romwright.plain import BadPower, name_words, NoBlock, NoPage, NoSlot, PowerLost, TooLong, Written

BLANKS = (65535,) * 16
ROW = tuple(range(16))
NO_NUMBERS = (-1, True, False, None, "0")


def filled(*pages):
    flash = Flash()
    for page in pages:
        flash[page] = ROW
    return flash


def told(flash):
    return [flash[page] for page in range(144)]


class Pages(Checks):
    def test_blank(self):
        flash = Flash()
        self.assertEqual(told(flash), [BLANKS] * 144)
        self.assertIsNone(flash.left)

    def test_written(self):
        flash = Flash()
        flash[0] = ROW
        flash[143] = list(ROW[::-1])
        self.assertEqual((flash[0], flash[143], flash[1]), (ROW, ROW[::-1], BLANKS))

    def test_wrong_pages(self):
        flash = filled(3)
        for page in (144, *NO_NUMBERS):
            self.fails(NoPage, page, flash.__getitem__, page)
            self.fails(NoPage, page, flash.__setitem__, page, (1,) * 15)
            self.fails(NoPage, page, flash.put_in, page, (1,) * 9999)
        for count in (0, 1, 15, 17):
            self.fails(TooLong, count, flash.__setitem__, 3, (1,) * count)

    def test_pages_that_are_written(self):
        flash = filled(3)
        self.fails(Written, 3, flash.__setitem__, 3, ROW)
        self.fails(Written, 3, flash.__setitem__, 3, BLANKS)
        flash[4] = BLANKS
        flash[4] = BLANKS[:15] + (0,)
        self.fails(Written, 4, flash.__setitem__, 4, ROW)
        self.assertEqual(told(flash)[3:5], [ROW, BLANKS[:15] + (0,)])
        limit_power(flash, 0)
        self.fails(Written, 3, flash.__setitem__, 3, ROW)

    def test_each_unit_of_a_write(self):
        for words in (ROW, (1, 65535, 65535, 2) + BLANKS[4:], BLANKS[1:] + (7,), BLANKS, (0,) + BLANKS[1:]):
            count = max([0] + [place + 1 for place in range(16) if words[place] != 65535])
            for units in range(count):
                flash = Flash()
                limit_power(flash, units)
                self.fails(PowerLost, (), flash.__setitem__, 5, words)
                self.assertEqual(flash[5], words[:units] + BLANKS[units:])
                self.assertEqual(flash.left, 0)
            for units in (count, count + 1):
                flash = Flash()
                limit_power(flash, units)
                flash[5] = words
                self.assertEqual((flash[5], flash.left), (words, units - count))

    def test_each_unit_of_an_erasure(self):
        for units in range(10):
            flash = filled(*range(7, 17))
            limit_power(flash, units)
            if units < 8:
                self.fails(PowerLost, (), flash.erase, 1)
            else:
                flash.erase(1)
                self.assertEqual(flash.left, units - 8)
            done = min(units, 8)
            self.assertEqual(told(flash)[7:17], [ROW] + [BLANKS] * done + [ROW] * (9 - done))

    def test_erase(self):
        flash = filled(0, 7, 8, 143)
        flash.erase(0)
        flash.erase(17)
        flash.erase(16)
        self.assertEqual([page for page in range(144) if flash[page] != BLANKS], [8])
        for block in (18, *NO_NUMBERS):
            self.fails(NoBlock, block, flash.erase, block)
            self.fails(NoBlock, block, flash.block_words, block)

    def test_slots_and_blocks(self):
        flash = filled(1, 64, 127, 128, 136)
        self.assertEqual(flash.slot_words(0), BLANKS + ROW + BLANKS * 62)
        self.assertEqual(flash.slot_words(1), ROW + BLANKS * 62 + ROW)
        self.assertEqual(flash.block_words(0), BLANKS + ROW + BLANKS * 6)
        self.assertEqual(flash.block_words(15), BLANKS * 7 + ROW)
        self.assertEqual(flash.block_words(16), ROW + BLANKS * 7)
        self.assertEqual(flash.block_words(17), ROW + BLANKS * 7)
        for slot in (2, *NO_NUMBERS):
            self.fails(NoSlot, slot, flash.slot_words, slot)


class PutIn(Checks):
    def test_words(self):
        flash = Flash()
        flash.put_in(2, tuple(range(37)))
        self.assertEqual(told(flash)[1:6], [BLANKS, ROW, tuple(range(16, 32)), (32, 33, 34, 35, 36) + BLANKS[5:], BLANKS])
        flash.put_in(9, ())
        flash.put_in(9, (65535,) * 40)
        self.assertEqual(told(flash)[5:], [BLANKS] * 139)

    def test_the_last_pages(self):
        flash = Flash()
        flash.put_in(142, (1,) * 32)
        self.assertEqual(told(flash)[141:], [BLANKS, (1,) * 16, (1,) * 16])
        flash = Flash()
        self.fails(NoPage, 144, flash.put_in, 142, (1,) * 33)
        self.fails(NoPage, 144, flash.put_in, 143, (1,) * 16 + (65535,))
        self.fails(NoPage, 144, flash.put_in, 0, (1,) * 2305)
        self.assertEqual(told(flash), [BLANKS] * 144)
        flash.put_in(0, (1,) * 2304)
        self.assertEqual(told(flash), [(1,) * 16] * 144)

    def test_pages_that_are_written(self):
        flash = filled(4, 6)
        before = told(flash)
        self.fails(Written, 4, flash.put_in, 3, (1,) * 64)
        self.fails(Written, 6, flash.put_in, 5, (1,) * 32)
        self.fails(NoPage, 144, flash.put_in, 4, (1,) * 2304)
        self.assertEqual(told(flash), before)
        limit_power(flash, 3)
        self.fails(Written, 6, flash.put_in, 5, (1,) * 32)
        self.assertEqual((told(flash), flash.left), (before, 3))
        limit_power(flash, None)
        # A page that gets blank words alone is not written.
        flash.put_in(3, (1,) * 16 + BLANKS + (2,) * 16 + BLANKS)
        self.assertEqual(told(flash)[3:7], [(1,) * 16, ROW, (2,) * 16, ROW])

    def test_each_unit(self):
        words = (1, 2, 65535) + (65535,) * 29 + (65535, 3) + (65535,) * 14 + (65535,) * 15 + (4,)
        rows = [words[at:at + 16] for at in range(0, 64, 16)]
        order = [(0, 0), (0, 1), (2, 0), (2, 1)] + [(3, place) for place in range(16)]
        for units in range(len(order) + 1):
            flash = Flash()
            limit_power(flash, units)
            if units < len(order):
                self.fails(PowerLost, (), flash.put_in, 60, words)
            else:
                flash.put_in(60, words)
            want = [list(BLANKS) for _ in range(4)]
            for row, place in order[:units]:
                want[row][place] = rows[row][place]
            self.assertEqual(told(flash)[60:64], [tuple(row) for row in want])
            self.assertEqual(flash.left, 0)


class Powers(Checks):
    def test_with(self):
        flash = Flash()
        with Power(flash, 5):
            self.assertEqual(flash.left, 5)
            flash.put_in(0, (1, 2))
            self.assertEqual(flash.left, 3)
        self.assertIsNone(flash.left)
        flash[1] = ROW

    def test_with_an_error(self):
        flash = Flash()
        with self.assertRaises(PowerLost):
            with Power(flash, 3):
                flash[0] = ROW
        self.assertIsNone(flash.left)
        self.assertEqual(flash[0], ROW[:3] + BLANKS[3:])

    def test_without_a_limit(self):
        flash = Flash()
        limit_power(flash, 2)
        with Power(flash, None):
            self.assertIsNone(flash.left)
            flash[0] = ROW
        self.assertIsNone(flash.left)
        # Only what stands within is limited.
        limit_power(flash, 2)
        power = Power(flash, 9)
        self.assertEqual(flash.left, 2)
        with power:
            self.assertEqual(flash.left, 9)

    def test_limit_power(self):
        flash = Flash()
        limit_power(flash, 8)
        flash.erase(0)
        self.fails(PowerLost, (), flash.erase, 1)
        self.assertIsNone(limit_power(flash, None))
        flash.erase(1)

    def test_bad(self):
        flash = Flash()
        limit_power(flash, 4)
        for units in (-1, True, False, "3", (1,)):
            self.fails(BadPower, units, Power, flash, units)
            self.fails(BadPower, units, limit_power, flash, units)
        self.assertEqual(flash.left, 4)


def digits(number):
    return (number // 65536 ** 2, number // 65536 % 65536, number % 65536)


def note_words(serial, sure, tries, level, record):
    words = [2, serial, sure, tries, level, len(record), 0, 0, 0]
    for name in sorted(record):
        words += [*name_words(name), record[name]]
    words += [65535] * (128 - len(words))
    words[6:9] = digits(sum((i + 1) * (65535 - w) for i, w in enumerate(words) if i not in (6, 7, 8)))
    return tuple(words)


FULL = {f"n{k}": 1000 + k for k in range(24)}


class Notes(Checks):
    def test_words(self):
        for record in ({}, {"b": 2, "a": 65535, "c12345678": 0}, FULL):
            note = Note(1, 0, 2, 65535, record)
            self.assertEqual(note.as_words(), note_words(1, 0, 2, 65535, record))
            again = Note.from_words(note.as_words())
            self.assertTrue(again == note)
            self.assertEqual((again.serial, again.sure, again.tries, again.level, again.record), (1, 0, 2, 65535, record))
        self.assertEqual(Note(0, 0, 0, 0, FULL).as_words()[105:], (65535,) * 23)

    def test_equal(self):
        note = Note(1, 0, 2, 3, {"a": 1})
        for other in (Note(2, 0, 2, 3, {"a": 1}), Note(1, 1, 2, 3, {"a": 1}), Note(1, 0, 1, 3, {"a": 1}),
                      Note(1, 0, 2, 4, {"a": 1}), Note(1, 0, 2, 3, {"a": 2}), Note(1, 0, 2, 3, {}), 7):
            self.assertFalse(note == other)
        self.assertTrue(note == Note(1, 0, 2, 3, {"a": 1}))
        self.assertTrue(Note(1, 0, 2, 3, {"a": 1, "b": 2}) == Note(1, 0, 2, 3, {"b": 2, "a": 1}))

    def test_record_is_a_copy(self):
        record = {"a": 1}
        note = Note(0, 0, 0, 0, record)
        record["a"] = 2
        self.assertEqual(note.record, {"a": 1})

    def test_each_word_changed(self):
        for record in ({}, {"a": 1, "b": 2}, FULL):
            words = Note(1, 1, 1, 1, record).as_words()
            for place in range(128):
                for word in {0, 1, words[place] ^ 1, 65535, (words[place] + 1) % 65536} - {words[place]}:
                    self.assertIsNone(Note.from_words(words[:place] + (word,) + words[place + 1:]), place)

    def test_bounds(self):
        def signed(place, word):
            words = list(note_words(1, 1, 1, 1, {}))
            words[place] = word
            words[6:9] = digits(sum((i + 1) * (65535 - w) for i, w in enumerate(words) if i not in (6, 7, 8)))
            return tuple(words)

        for place, good, bad in ((0, [2], [0, 1, 3, 65535]), (1, [0, 1, 2], [3, 65535]), (2, [0, 1], [2, 65535]),
                                 (3, [0, 2, 65535], []), (4, [0, 65535], []), (5, [0], [25, 65535])):
            for word in good:
                self.assertEqual(Note.from_words(signed(place, word)).as_words(), signed(place, word))
            for word in bad:
                self.assertIsNone(Note.from_words(signed(place, word)))
        self.assertIsNone(Note.from_words((65535,) * 128))
        self.assertIsNone(Note.from_words((0,) * 128))

    def test_newest(self):
        flash = Flash()
        self.assertIsNone(newest(flash))
        for first, second in itertools.product(range(3), repeat=2):
            if first == second:
                continue
            flash = Flash()
            flash.put_in(128, note_words(first, 0, 0, 7, {}))
            self.assertEqual((newest(flash)[0], newest(flash)[1].level), (16, 7))
            flash.put_in(136, note_words(second, 1, 0, 8, {}))
            block = 16 if first == (second + 1) % 3 else 17
            self.assertEqual((newest(flash)[0], newest(flash)[1].level), (block, 7 if block == 16 else 8))
            flash.erase(16)
            self.assertEqual(newest(flash)[0], 17)

    def test_writing(self):
        flash = Flash()
        flash.put_in(128, (9,) * 128)
        for number in range(9):
            self.assertIsNone(write_note(flash, sure=number % 2, tries=number, level=5, record={"a": number}))
            block, note = newest(flash)
            self.assertEqual((block, note.serial, note.sure), (16 + number % 2, number % 3, number % 2))
            self.assertEqual((note.tries, note.level, note.record), (number, 5, {"a": number}))
            self.assertEqual(flash.block_words(block), note_words(number % 3, number % 2, number, 5, {"a": number}))

    def test_power_lost_at_each_unit(self):
        for count in range(4):
            for record in ({}, {"a": 65535}, FULL):
                units = 0
                while True:
                    flash = Flash()
                    for number in range(count):
                        write_note(flash, sure=0, tries=number, level=number, record={"k": number, "m": 1})
                    before = newest(flash)
                    try:
                        with Power(flash, units):
                            write_note(flash, sure=1, tries=9, level=9, record=record)
                    except PowerLost as error:
                        self.assertEqual(error.seen, ())
                        self.assertEqual(newest(flash), before)
                        # The next one can be written all the same.
                        write_note(flash, sure=1, tries=8, level=8, record=record)
                        self.assertEqual(newest(flash)[1].tries, 8)
                        units += 1
                        continue
                    break
                last = 105 if len(record) == 24 else 9 + 4 * len(record)
                if record == {"a": 65535}:
                    # The last word is blank as it is.
                    last -= 1
                self.assertEqual(units, 8 + last)
                self.assertEqual(newest(flash)[1].record, record)

    def test_by_chance(self):
        rng = random.Random(41)
        flash = Flash()
        last = None
        for _ in range(300):
            told = (rng.randint(0, 1), rng.randint(0, 2), rng.randint(0, 65535),
                    {name: rng.randint(0, 65535) for name in rng.sample(sorted(FULL), rng.randint(0, 24))})
            units = rng.choice([None, rng.randint(0, 130)])
            try:
                with Power(flash, units):
                    write_note(flash, sure=told[0], tries=told[1], level=told[2], record=told[3])
                last = told
            except PowerLost:
                pass
            note = newest(flash)
            if last is None:
                self.assertIsNone(note)
            else:
                self.assertEqual((note[1].sure, note[1].tries, note[1].level, note[1].record), last)


if __name__ == "__main__":
    unittest.main()
