"""Devices: images in two slots of a flash memory, one of them sure, the other one tried."""

from romwright.flash import check_power, Flash, newest, Power, write_note
from romwright.holding import check_met, check_ready, confirm_note, Holder, meet_held, save_note, staleness, switch_off
from romwright.image import check_secret, Image, refusal
from romwright.machine import Board
from romwright.maps import lines_at_run
from romwright.plain import BadHomes, BadLimit, is_between, PowerLost, Refused, Stale

MOST_HOME = 63487
APART = 1024
MOST_LIMIT = 60000
SLOT_BLOCKS = 8
SLOT_PAGES = 64
PAGE_WORDS = 16


class Device(Holder):
    def __init__(self, image, *, product, secret, homes, limit=2000):
        check_secret(secret)
        check_homes(homes)
        check_limit(limit)
        reason = refusal(image, product=product, secret=secret, home=homes[0])
        if reason is not None:
            raise Refused(reason)
        first = Image(image)
        board = Board(first.read_setup())
        super().__init__(board.offers, board.wants)
        self.flash = Flash()
        self.product = product
        self.secret = secret
        self.homes = homes
        self.bound = limit
        # What begins at the addresses of the last run: (name of the section, place).
        self.line_table = {}
        self.flash.put_in(0, first.words)
        self.keep_note(0, 0, first.level, {})

    @property
    def note(self):
        return newest(self.flash)[1]

    @property
    def trial_limit(self):
        return self.bound

    @trial_limit.setter
    def trial_limit(self, value):
        check_limit(value)
        self.bound = value

    def meet(self, event, power=None):
        check_power(power)
        check_met(self, event)
        with Power(self.flash, power):
            told = meet_held(self, event)
        self.printed_at = tuple([self.line_table.get(address) for address in self.inner.printed_at])
        return told

    def send(self, image, power=None):
        check_power(power)
        check_ready(self)
        slot = 1 - self.note.sure
        reason = self.refusal_in(slot, image)
        if reason in ("level", "version"):
            raise Refused(reason) from Stale(image[3] if reason == "level" else image[2])
        if reason is not None:
            raise Refused(reason)
        with Power(self.flash, power):
            store_image(self, slot, image[:image[6]])

    def image_in(self, slot):
        return Image(self.flash.slot_words(slot))

    def read_units(self):
        return self.image_in(self.note.sure if self.slot is None else self.slot).read_units()

    def refusal_in(self, slot, words):
        """Why words are refused for a slot, or None."""
        reason = refusal(words, product=self.product, secret=self.secret, home=self.homes[slot])
        if reason is not None:
            return reason
        note = self.note
        return staleness(words[3], words[2], note.level, self.flash.slot_words(note.sure)[2])

    def note_save(self, record):
        save_note(self, record)

    def note_confirm(self):
        confirm_note(self)

    def last_note(self):
        return self.note

    def keep_note(self, sure, tries, level, record):
        write_note(self.flash, sure=sure, tries=tries, level=level, record=record)
        self.record = {name: record[name] for name in record}

    def level_in(self, slot):
        return self.flash.slot_words(slot)[3]

    def judge(self, slot):
        """Why the release in a slot cannot be tried, but for its tries; or None."""
        return self.refusal_in(slot, self.flash.slot_words(slot))

    def inner_of(self, slot, tried):
        """The board of a slot."""
        image = self.image_in(slot)
        self.line_table = lines_at_run(image.home, image.content, image.map)
        return Board(image.read_setup(), self.note.record, self.bound if tried else None)


def check_homes(homes):
    if not isinstance(homes, tuple) or len(homes) != 2:
        raise BadHomes(homes)
    if not all([is_between(home, 1, MOST_HOME) for home in homes]) or abs(homes[0] - homes[1]) < APART:
        raise BadHomes(homes)


def check_limit(limit):
    if not is_between(limit, 1, MOST_LIMIT):
        raise BadLimit(limit)


def set_limit(device, limit):
    """Sets the limit of the steps of a release on trial."""
    device.trial_limit = limit


def store_image(device, slot, words):
    """Puts an image into a slot; its first page comes last, so that it is refused until it is whole."""
    note = device.note
    flash = device.flash
    try:
        for block in range(slot * SLOT_BLOCKS, (slot + 1) * SLOT_BLOCKS):
            flash.erase(block)
        flash.put_in(slot * SLOT_PAGES + 1, words[PAGE_WORDS:])
        device.keep_note(note.sure, 0, note.level, note.record)
        flash.put_in(slot * SLOT_PAGES, words[:PAGE_WORDS])
    except PowerLost:
        switch_off(device)
        raise
