"""Lives by names, turns for devices, and courses as text."""

from romwright.flash import Note
from romwright.holding import check_met, check_ready, confirm_note, Holder, meet_held, save_note, staleness, switch_off
from romwright.image import image_of
from romwright.items import is_count
from romwright.lay import lay
from romwright.lines import word_of
from romwright.link import link
from romwright.named import Lone
from romwright.order import ascending
from romwright.pick import pick
from romwright.plain import BadLine, is_name, PowerLost, Refused
from romwright.turn import Release
from romwright.waves import Course


def built(script, units, home, archives=(), confirms=None):
    """The linked program that is picked and laid."""
    return link(lay(pick(script, units, archives), home, confirms))


class Life(Holder):
    """A device without addresses: programs instead of images."""

    def __init__(self, program, *, version, level, limit=2000):
        super().__init__(program.offers, program.wants)
        # (program, version, level), or None where there is none.
        self.releases = [(program, version, level), None]
        self.level = level
        self.version = version
        self.limit = limit
        self.last = Note(0, 0, 0, level, {})
        # The notes that can be written yet in an event; None without a limit.
        self.left = None

    def meet(self, event, notes=None):
        check_met(self, event)
        self.left = notes
        told = meet_held(self, event)
        self.printed_at = self.inner.printed_at
        return told

    def send(self, program, *, version, level, lost=None):
        check_ready(self)
        reason = staleness(level, version, self.level, self.version)
        if reason is not None:
            raise Refused(reason)
        slot = 1 - self.last.sure
        if lost is None:
            self.releases[slot] = (program, version, level)
            self.last = Note(0, self.last.sure, 0, self.level, self.last.record)
            return
        if lost == "amid":
            self.releases[slot] = None
        switch_off(self)
        raise PowerLost(())

    def note_save(self, record):
        save_note(self, record)

    def note_confirm(self):
        confirm_note(self)

    def last_note(self):
        return self.last

    def keep_note(self, sure, tries, level, record):
        if self.left is not None:
            if self.left == 0:
                raise PowerLost(())
            self.left -= 1
        self.last = Note(0, sure, tries, level, record)
        self.record = {name: record[name] for name in record}
        self.level = level
        self.version = self.releases[sure][1]

    def level_in(self, slot):
        return self.releases[slot][2]

    def judge(self, slot):
        """Why the other release cannot be tried, but for its tries; or None."""
        if self.releases[slot] is None:
            return "format"
        return staleness(self.releases[slot][2], self.releases[slot][1], self.level, self.version)

    def inner_of(self, slot, tried):
        """The lone device of a release."""
        return Lone(self.releases[slot][0], self.last.record, self.limit if tried else None)


def turned(device, script, turn, *, version, level):
    """The image by which a device comes to a newer release, for its slot that is not sure."""
    sure = device.note.sure
    release = Release(device.image_in(sure).read_units()) + turn
    linked = built(script, list(release), device.homes[1 - sure])
    return image_of(linked, product=device.product, version=version, level=level, secret=device.secret)


class CourseReader:
    """Takes the lines of a course one after the other."""

    def __init__(self):
        self.names = []
        # For each device its releases, each a pair (offers, wants) of lists.
        self.releases = []

    def accept(self, words):
        """Whether the text can go on with the line of these words."""
        if words[0] == "device":
            if len(words) != 2 or not is_name(words[1]):
                return False
            self.names.append(words[1])
            self.releases.append([])
            return True
        if words == ["release"]:
            if len(self.names) == 0:
                return False
            self.releases[-1].append(([], []))
            return True
        if len(self.names) == 0 or len(self.releases[-1]) == 0:
            return False
        offers, wants = self.releases[-1][-1]
        if words[0] == "offer":
            return take_offer(words, offers)
        return words[0] == "want" and take_want(words, wants)


def read_counts(words):
    """(takes, leaves) of two words, or None."""
    if len(words) != 2:
        return None
    counts = (word_of(words[0]), word_of(words[1]))
    return counts if is_count(counts[0]) and is_count(counts[1]) else None


def take_offer(words, offers):
    """Whether a line is an offer of a name that the offers do not have; it is put to them."""
    counts = read_counts(words[2:])
    if counts is None or not is_name(words[1]) or words[1] in [offer[0] for offer in offers]:
        return False
    offers.append((words[1],) + counts)
    return True


def take_want(words, wants):
    """Whether a line is a want that the wants do not have; it is put to them."""
    counts = read_counts(words[3:])
    if counts is None or not is_name(words[1]) or not is_name(words[2]):
        return False
    want = (words[1], words[2]) + counts
    if want in wants:
        return False
    wants.append(want)
    return True


def course_of(lines):
    """The course of a text."""
    reader = CourseReader()
    for number, line in enumerate(lines):
        if not reader.accept(line.split(" ")):
            raise BadLine(number)
    releases = [[(ascending(offers), ascending(wants)) for offers, wants in rows] for rows in reader.releases]
    return Course(reader.names, releases)
