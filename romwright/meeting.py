"""How a device meets events, whether it runs by names or by words."""

from romwright.order import ascending
from romwright.plain import BadEvent, is_word, NotNow
from romwright.stepping import fault, given

MOST_STEPS = 2000
MOST_KEPT = 24


class Meeter:
    """A device; the classes under it tell how its runs begin and where they print."""

    def __init__(self, offers, wants, record, limit):
        self.offers = offers
        self.wants = wants
        self.record = {} if record is None else {name: record[name] for name in record}
        self.limit = limit
        self.kind = "off"
        self.reason = None
        self.confirmed = False
        # The steps that were done when it confirmed for the first time since its last start.
        self.confirmed_at = None
        self.steps = 0
        self.printed_at = ()
        # What it has told so far of the last event.
        self.seen = []
        # Who keeps notes of what it saves and confirms, if somebody does.
        self.holder = None
        # The run of the last start, and the one that met the last event: this one or a call from afar.
        self.run = None
        self.active = None


def meet_event(device, event):
    """The observations of a device that meets an event."""
    if not is_event(device, event):
        raise BadEvent(event)
    if not meets_now(device, event):
        raise NotNow(event)
    leaves = None
    device.seen = []
    device.active = device.run
    if event[0] == "start":
        device.steps = 0
        device.confirmed = False
        device.confirmed_at = None
        device.run = device.fresh_run()
        device.active = device.run
    elif event[0] == "call":
        leaves = effect_of(device, event[1])[1]
        device.active = device.run_afar(event[1], event[2])
    elif event[0] == "lost":
        fault(device.run, "far")
    else:
        given(device.run, event[1] if event[0] == "answer" else (event[1],))
    carry(device, device.active, leaves)
    return tuple(device.seen)


def is_event(device, event):
    """Whether this has the form of an event."""
    if not isinstance(event, tuple) or len(event) == 0:
        return False
    kind = event[0]
    if kind == "start" or kind == "lost":
        return len(event) == 1
    if kind == "feed":
        return len(event) == 2 and is_word(event[1])
    if kind == "answer":
        return len(event) == 2 and are_words(event[1])
    if kind != "call" or len(event) != 3 or not are_words(event[2]):
        return False
    effect = effect_of(device, event[1])
    return effect is not None and effect[0] == len(event[2])


def are_words(thing):
    return isinstance(thing, tuple) and all([is_word(word) for word in thing])


def effect_of(device, name):
    """What a call of an exported name takes and leaves, or None."""
    for offered, takes, leaves in device.offers:
        if offered == name:
            return (takes, leaves)
    return None


def meets_now(device, event):
    """Whether the device, as it stands, meets this event."""
    kind = event[0]
    if kind == "start":
        return True
    if kind == "feed":
        return device.kind == "asks"
    if kind == "call":
        return device.kind in ("asks", "done")
    if device.kind != "far":
        return False
    return kind == "lost" or len(event[1]) == device.run.wanted[3]


def carry(device, run, leaves):
    """Lets a run go on until it can do no more, and tells what is seen. A call from afar leaves so many words."""
    printed = len(run.printed)
    left = MOST_STEPS
    while run.kind in ("runs", "saves", "confirms"):
        if run.kind == "saves":
            save_cells(device, run)
        elif run.kind == "confirms":
            confirm_run(device, run)
        elif device.limit is not None and not device.confirmed and device.steps >= device.limit:
            run.kind = "late"
        elif left == 0:
            break
        else:
            left -= 1
            device.steps += 1
            count = len(run.prints)
            run.advance()
            if len(run.prints) > count:
                device.seen.append(("print", run.prints[-1]))
    device.seen.append(last_told(run, leaves))
    device.printed_at = tuple([device.spot(place) for place in run.printed[printed:]])
    device.kind = device.run.kind if run.kind == "back" else run.kind
    device.reason = run.reason


def confirm_run(device, run):
    if device.holder is not None:
        device.holder.note_confirm()
    if not device.confirmed:
        device.confirmed = True
        device.confirmed_at = device.steps
    device.seen.append(("confirm",))
    given(run, ())


def save_cells(device, run):
    """Puts the kept cells into the record, if there is room for them."""
    pairs = tuple(ascending(run.kept_cells()))
    record = {name: device.record[name] for name in device.record}
    for name, word in pairs:
        record[name] = word
    if len(record) > MOST_KEPT:
        fault(run, "full")
        return
    if device.holder is not None:
        device.holder.note_save(record)
    for name, word in pairs:
        device.record[name] = word
    device.seen.append(("save", pairs))
    given(run, ())


def last_told(run, leaves):
    """The last observation of an event."""
    if run.kind == "back":
        if len(run.pile) != leaves:
            fault(run, "effect")
        elif any([isinstance(value, tuple) for value in run.pile]):
            run.kind = "hangs"
        else:
            return ("back", tuple(run.pile))
    if run.kind == "fault":
        return ("fault", run.reason)
    if run.kind == "far":
        return ("far",) + run.wanted
    return (run.kind,)
