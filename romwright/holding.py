"""What devices and lives have in common: a sure release, another one that is tried, and notes of both."""

from romwright.meeting import is_event, meets_now
from romwright.order import greatest_of
from romwright.plain import BadEvent, NotNow, PowerLost, Refused

MOST_TRIES = 2


class Holder:
    """Holds two releases and a note; the classes under it tell where these are, and how a release is run."""

    def __init__(self, offers, wants):
        self.kind = "off"
        self.steps = 0
        self.slot = None
        self.trial = False
        self.reason = None
        self.record = {}
        self.offers = offers
        self.wants = wants
        self.printed_at = ()
        # The lone device or board of the last start; None if the power was lost since then.
        self.inner = None


def save_note(holder, record):
    """Writes a note with the record of a run that saves."""
    note = holder.last_note()
    holder.keep_note(note.sure, note.tries, note.level, record)


def confirm_note(holder):
    """Writes a note by which the release on trial is sure."""
    if holder.trial:
        note = holder.last_note()
        level = greatest_of([note.level, holder.level_in(holder.slot)])
        holder.keep_note(holder.slot, 0, level, note.record)
        holder.trial = False


def check_met(holder, event):
    """Raises an error for an event of no form, or one that is not met now."""
    if not is_event(holder, event):
        raise BadEvent(event)
    if event[0] != "start" and (holder.inner is None or not meets_now(holder.inner, event)):
        raise NotNow(event)


def meet_held(holder, event):
    """The observations of a holder that meets an event."""
    try:
        if event[0] == "start":
            begin(holder)
        told = holder.inner.meet(event)
    except PowerLost:
        seen = () if holder.inner is None else tuple(holder.inner.seen)
        switch_off(holder)
        raise PowerLost(seen)
    holder.kind = holder.inner.kind
    holder.steps = holder.inner.steps
    return told


def begin(holder):
    """Chooses a release and makes its run; the run itself begins with the start that it meets."""
    holder.inner = None
    note = holder.last_note()
    slot = 1 - note.sure
    reason = holder.judge(slot)
    if reason is None and note.tries >= MOST_TRIES:
        reason = "tries"
    if reason is None:
        holder.keep_note(note.sure, note.tries + 1, note.level, note.record)
    else:
        slot = note.sure
    inner = holder.inner_of(slot, reason is None)
    inner.holder = holder
    holder.slot = slot
    holder.trial = reason is None
    holder.reason = reason
    holder.offers = inner.offers
    holder.wants = inner.wants
    holder.inner = inner


def switch_off(holder):
    holder.kind = "off"
    holder.trial = False
    holder.inner = None


def check_ready(holder):
    """Raises an error if no release can be sent now."""
    if holder.kind == "off":
        raise Refused("off")
    if holder.trial:
        raise Refused("trial")


def staleness(level, version, least_level, sure_version):
    """Why a release is too old, or None."""
    if level < least_level:
        return "level"
    return "version" if version <= sure_version else None
