"""A flash memory whose power can be lost, and the notes that are kept in it."""

from romwright.image import check_of, digits_of, number_at
from romwright.order import ascending
from romwright.plain import BadPower, BLANK, is_between, name_words, NoBlock, NoPage, NoSlot, PowerLost, TooLong
from romwright.plain import words_name, Written

PAGES = 144
PAGE_WORDS = 16
BLOCKS = 18
BLOCK_PAGES = 8
SLOT_PAGES = 64
BLANK_PAGE = (65535,) * 16
# The blocks that hold notes, and what a whole note is told by.
NOTE_BLOCKS = (16, 17)
NOTE_MARK = 2
NOTE_CHECK = (6, 7, 8)
NOTE_HEAD = 9
NOTE_WORDS = 128
MOST_NAMES = 24


class Flash:
    """Pages of words, each of which is blank or written; an erasure or a word takes a unit of power."""

    def __init__(self):
        self.pages = [BLANK_PAGE] * PAGES
        # The units of power that are left, None without a limit.
        self.left = None

    def __getitem__(self, at):
        check_page(at)
        return self.pages[at]

    def __setitem__(self, at, worth):
        check_page(at)
        if len(worth) != PAGE_WORDS:
            raise TooLong(len(worth))
        if self.pages[at] != BLANK_PAGE:
            raise Written(at)
        write_page(self, at, worth)

    def __iter__(self):
        raise TypeError("a flash is not iterated over")

    def erase(self, block):
        check_block(block)
        for page in range(block * BLOCK_PAGES, (block + 1) * BLOCK_PAGES):
            use_power(self)
            self.pages[page] = BLANK_PAGE

    def slot_words(self, slot):
        if not is_between(slot, 0, 1):
            raise NoSlot(slot)
        return words_of_pages(self, slot * SLOT_PAGES, SLOT_PAGES)

    def block_words(self, block):
        check_block(block)
        return words_of_pages(self, block * BLOCK_PAGES, BLOCK_PAGES)

    def put_in(self, page, words):
        check_page(page)
        rows = rows_for_pages(words)
        if page + len(rows) > PAGES:
            raise NoPage(PAGES)
        due = [number for number, row in enumerate(rows) if row != BLANK_PAGE]
        for number in due:
            if self.pages[page + number] != BLANK_PAGE:
                raise Written(page + number)
        for number in due:
            write_page(self, page + number, rows[number])


class Power:
    """Limits the power of a flash for what stands within a `with`."""

    def __init__(self, flash, units):
        check_power(units)
        self.flash = flash
        self.units = units

    def __enter__(self):
        limit_power(self.flash, self.units)
        return self

    def __exit__(self, kind, value, trace):
        flash = self.flash
        flash.left = None


class Note:
    """What a device keeps from start to start."""

    def __init__(self, serial, sure, tries, level, record):
        self.serial = serial
        self.sure = sure
        self.tries = tries
        self.level = level
        self.record = {name: record[name] for name in record}

    def as_words(self):
        words = [NOTE_MARK, self.serial, self.sure, self.tries, self.level, len(self.record), 0, 0, 0]
        for name in ascending(self.record):
            words.extend(name_words(name))
            words.append(self.record[name])
        words.extend([BLANK] * (NOTE_WORDS - len(words)))
        words[6:9] = list(digits_of(check_of(words, NOTE_CHECK), len(NOTE_CHECK)))
        return tuple(words)

    @classmethod
    def from_words(cls, words):
        if not is_whole_note(words):
            return None
        return cls(words[1], words[2], words[3], words[4], record_in(words))

    def __eq__(self, other):
        return isinstance(other, Note) and note_key(self) == note_key(other)


def note_key(note):
    """All that two equal notes have in common."""
    return (note.serial, note.sure, note.tries, note.level, note.record)


def check_page(page):
    if not is_between(page, 0, PAGES - 1):
        raise NoPage(page)


def check_block(block):
    if not is_between(block, 0, BLOCKS - 1):
        raise NoBlock(block)


def check_power(units):
    if units is not None and (not isinstance(units, int) or isinstance(units, bool) or units < 0):
        raise BadPower(units)


def use_power(flash):
    """Takes a unit of power, if there is one."""
    if flash.left is not None:
        if flash.left == 0:
            raise PowerLost(())
        flash.left -= 1


def limit_power(flash, units):
    """Limits the power of a flash from now on."""
    check_power(units)
    flash.left = units


def write_page(flash, page, words):
    """Writes the words of a blank page one after the other, up to the last one that is not blank."""
    count = len(words)
    while count > 0 and words[count - 1] == BLANK:
        count -= 1
    for place in range(count):
        use_power(flash)
        flash.pages[page] = tuple(words[:place + 1]) + BLANK_PAGE[place + 1:]


def words_of_pages(flash, page, count):
    """The words of so many pages, a tuple."""
    return tuple([word for row in flash.pages[page:page + count] for word in row])


def rows_for_pages(words):
    """The words as rows for pages, a list; the last one is filled up with blank words."""
    rows = [tuple(words[at:at + PAGE_WORDS]) for at in range(0, len(words), PAGE_WORDS)]
    return [row + BLANK_PAGE[len(row):] for row in rows]


def is_whole_note(words):
    """Whether the words of a block are those of a whole note."""
    if len(words) != NOTE_WORDS or words[0] != NOTE_MARK:
        return False
    if words[1] > 2 or words[2] > 1 or words[5] > MOST_NAMES:
        return False
    return check_of(words, NOTE_CHECK) == number_at(words, NOTE_CHECK)


def record_in(words):
    """The record of a whole note, a dict."""
    record = {}
    for number in range(words[5]):
        at = NOTE_HEAD + 4 * number
        name = words_name(words[at:at + 3])
        if name is not None:
            record[name] = words[at + 3]
    return record


def note_in(words):
    """The note of a block, None if it is not whole."""
    if not is_whole_note(words):
        return None
    return Note(words[1], words[2], words[3], words[4], record_in(words))


def newest(flash):
    """(block, note) of the newest note, or None."""
    first, second = [note_in(flash.block_words(block)) for block in NOTE_BLOCKS]
    if first is None and second is None:
        return None
    if second is None or (first is not None and first.serial == (second.serial + 1) % 3):
        return (NOTE_BLOCKS[0], first)
    return (NOTE_BLOCKS[1], second)


def write_note(flash, *, sure, tries, level, record):
    """Writes the next note; a note that is there stays whole until this one is."""
    last = newest(flash)
    block, serial = NOTE_BLOCKS[0], 0
    if last is not None:
        block = NOTE_BLOCKS[1] if last[0] == NOTE_BLOCKS[0] else NOTE_BLOCKS[0]
        serial = (last[1].serial + 1) % 3
    words = Note(serial, sure, tries, level, record).as_words()
    flash.erase(block)
    flash.put_in(block * BLOCK_PAGES, words)
