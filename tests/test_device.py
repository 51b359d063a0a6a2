"""Devices, [50] to [52] and [64]."""

import unittest

from checks import Checks, code, kept, unit
from making import made_picked
from releases import HOMES, image, made_image, made_units, plain_units, program_of, SECRET, seeded
from romwright.device import Device, set_limit
from romwright.flash import limit_power, newest, Note, write_note
from romwright.image import Image, image_of
from romwright.joining import joined
from romwright.lay import layings
from romwright.link import link
from romwright.named import Lone
from romwright.plain import BadEvent, BadHomes, BadImage, BadLimit, BadPower, BadSecret, NoSlot, NotNow, PowerLost
from romwright.plain import Refused, RomError, Stale
from romwright.units import Section, Unit

START = ("start",)
SAVES = [("ask",), ("name", "count", 0), ("store",), ("save",)]
# Prints 1, asks, and confirms when it is fed.
ELDER = plain_units([("push", 1), ("out",), ("name", "count", 0), ("load",), ("out",), *SAVES])
NEWER = plain_units([("push", 2), ("out",), ("name", "count", 0), ("load",), ("out",), ("ask",), ("drop",), ("confirm",),
                     *SAVES])
SPINS = plain_units([("push", 3), ("out",), ("go", "begin")])


def device(units=ELDER, limit=2000, **told):
    return Device(image(units, **told), product=7, secret=SECRET, homes=HOMES, limit=limit)


def newer(units=NEWER, version=2, level=0, slot=1, **told):
    return image(units, home=HOMES[slot], version=version, level=level, **told)


def updated(units=NEWER, elder=ELDER, limit=2000, **told):
    """A device that has started the elder release and got a newer one."""
    made = device(elder, limit)
    made.meet(START)
    made.send(newer(units, **told))
    return made


def put(made, slot, words):
    """Puts words into a slot straight away."""
    for block in range(8 * slot, 8 * slot + 8):
        made.flash.erase(block)
    made.flash.put_in(64 * slot, words)


def state(made):
    return (made.kind, made.slot, made.trial, made.reason, made.record, made.offers, made.wants,
            [made.flash[page] for page in range(144)], made.trial_limit)


class Made(Checks):
    def test_at_first(self):
        words = image(ELDER, level=3, version=9)
        made = Device(words + (5,) * 90, product=7, secret=SECRET, homes=HOMES)
        self.assertEqual((made.product, made.secret, made.homes, made.kind), (7, SECRET, HOMES, "off"))
        self.assertEqual((made.steps, made.slot, made.trial, made.reason, made.printed_at), (0, None, False, None, ()))
        self.assertEqual((made.record, made.offers, made.wants, made.trial_limit), ({}, (), (), 2000))
        self.assertEqual(made.flash.slot_words(0), words + (65535,) * (1024 - len(words)))
        self.assertEqual(made.flash.slot_words(1), (65535,) * 1024)
        self.assertTrue(made.note == Note(0, 0, 0, 3, {}))
        self.assertEqual(newest(made.flash)[0], 16)
        self.assertIsNone(made.flash.left)
        self.assertTrue(made.image_in(0) == Image(words))
        self.assertEqual(made.read_units(), program_units(ELDER))

    def test_errors_in_order(self):
        words = image(ELDER)
        good = {"product": 7, "secret": SECRET, "homes": HOMES, "limit": 5}
        for secret in (-1, 65521, True, None, "1"):
            self.fails(BadSecret, secret, Device, (), product=-1, secret=secret, homes=(), limit=0)
        for homes in ((), (2000,), (2000, 5000, 8000), [2000, 5000], (2000, 3023), (3023, 2000), (0, 5000), (5000, 0),
                      (63488, 5), (5, 63488), (True, 5000), (2000, "5000"), None, (2000, 2000)):
            self.fails(BadHomes, homes, Device, (), **{**good, "homes": homes, "limit": 0})
        for limit in (0, -1, 60001, True, None, "5"):
            self.fails(BadLimit, limit, Device, (), **{**good, "limit": limit})
        self.fails(Refused, "format", Device, (), **good)
        self.fails(Refused, "check", Device, words[:20] + (words[20] ^ 1,) + words[21:], **good)
        self.fails(Refused, "tag", Device, words, **{**good, "secret": 1})
        self.fails(Refused, "product", Device, words, **{**good, "product": 8})
        self.fails(Refused, "home", Device, words, **{**good, "homes": (5000, 2000)})
        for homes in ((2000, 3024), (2000, 976), (2000, 63487), (2000, 1)):
            self.assertEqual(Device(words, **{**good, "homes": homes}).homes, homes)
        for limit in (1, 60000):
            self.assertEqual(Device(words, **{**good, "limit": limit}).trial_limit, limit)
        for secret in (0, 65520):
            Device(image(ELDER, secret=secret), **{**good, "secret": secret})

    def test_limits(self):
        made = device()
        for limit in (0, 60001, True, None):
            self.fails(BadLimit, limit, set_limit, made, limit)
            with self.assertRaises(BadLimit):
                made.trial_limit = limit
        self.assertEqual(made.trial_limit, 2000)
        self.assertIsNone(set_limit(made, 7))
        self.assertEqual(made.trial_limit, 7)
        made.trial_limit = 60000
        self.assertEqual(made.trial_limit, 60000)

    def test_slots(self):
        made = device()
        self.fails(BadImage, "format", made.image_in, 1)
        for slot in (2, -1, True, None):
            self.fails(NoSlot, slot, made.image_in, slot)


def program_units(units):
    return [Unit(each.name, [Section(part.name, part.kind, part.body, symbols=part.symbols, exports=part.exports)
                             for part in each]) for each in units]


class Starts(Checks):
    def test_sure_and_alone(self):
        made = device()
        self.assertEqual(made.meet(START), (("print", 1), ("print", 0), ("asks",)))
        self.assertEqual((made.slot, made.trial, made.reason, made.kind, made.steps), (0, False, "format", "asks", 6))
        self.assertEqual(made.meet(("feed", 9)), (("save", (("count", 9),)), ("done",)))
        self.assertEqual((made.record, made.note.record, made.steps), ({"count": 9}, {"count": 9}, 10))
        self.assertEqual(made.meet(START), (("print", 1), ("print", 9), ("asks",)))

    def test_trial_and_confirm(self):
        made = updated(level=4)
        self.assertEqual((made.kind, made.slot, made.trial, made.reason), ("asks", 0, False, "format"))
        self.assertEqual(made.meet(START), (("print", 2), ("print", 0), ("asks",)))
        self.assertEqual((made.slot, made.trial, made.reason), (1, True, None))
        self.assertEqual((made.note.sure, made.note.tries, made.note.level), (0, 1, 0))
        self.assertEqual(made.meet(("feed", 3)), (("confirm",), ("asks",)))
        self.assertEqual((made.slot, made.trial, made.reason), (1, False, None))
        self.assertEqual((made.note.sure, made.note.tries, made.note.level), (1, 0, 4))
        self.assertEqual(made.meet(("feed", 5)), (("save", (("count", 5),)), ("done",)))
        self.assertEqual(made.meet(START), (("print", 2), ("print", 5), ("asks",)))
        self.assertEqual((made.slot, made.trial, made.reason), (1, False, "level"))

    def test_the_elder_one_is_of_an_elder_version(self):
        made = updated()
        made.meet(START)
        made.meet(("feed", 3))
        made.meet(START)
        self.assertEqual((made.slot, made.reason), (1, "version"))
        self.assertEqual(made.meet(("feed", 3)), (("confirm",), ("asks",)))

    def test_three_starts_without_a_confirm(self):
        made = updated()
        for tries in (1, 2):
            self.assertEqual(made.meet(START)[0], ("print", 2))
            self.assertEqual((made.slot, made.trial, made.note.tries), (1, True, tries))
        self.assertEqual(made.meet(START)[0], ("print", 1))
        self.assertEqual((made.slot, made.trial, made.reason, made.note.tries), (0, False, "tries", 2))
        self.assertEqual(made.meet(START)[0], ("print", 1))
        # Another sending begins the tries anew.
        made.send(newer())
        self.assertEqual((made.note.tries, made.meet(START)[0]), (0, ("print", 2)))

    def test_reasons_alone(self):
        elder = {"version": 5, "level": 5}
        wrong = newer(version=6, level=6)
        for words, reason in (((2,) + wrong[1:], "format"), (wrong[:2] + (9,) + wrong[3:], "check"),
                              (newer(version=6, level=6, secret=9), "tag"), (newer(version=6, level=6, product=9), "product"),
                              (newer(version=6, level=6, slot=0), "home"), (newer(version=6, level=4), "level"),
                              (newer(version=5, level=5), "version"), (newer(version=4, level=5), "version"),
                              (newer(version=6, level=5), None)):
            made = device(**elder)
            put(made, 1, words)
            self.assertEqual(made.meet(START)[0], ("print", 1 if reason else 2), reason)
            self.assertEqual((made.reason, made.trial, made.slot), (reason, reason is None, 0 if reason else 1))

    def test_reasons_in_order(self):
        for told, reason in (({"version": 5, "level": 4}, "level"), ({"version": 5, "level": 5}, "version"),
                             ({"version": 6, "level": 5}, "tries"), ({"version": 5, "level": 4, "slot": 0}, "home"),
                             ({"version": 5, "level": 4, "slot": 0, "product": 1}, "product"),
                             ({"version": 5, "level": 4, "slot": 0, "product": 1, "secret": 1}, "tag")):
            made = device(version=5, level=5)
            put(made, 1, newer(**told))
            write_note(made.flash, sure=0, tries=2, level=5, record={})
            made.meet(START)
            self.assertEqual(made.reason, reason)

    def test_the_level_is_that_of_the_note(self):
        made = device(version=5, level=5)
        write_note(made.flash, sure=0, tries=0, level=7, record={"count": 4})
        put(made, 1, newer(version=6, level=6))
        self.assertEqual(made.meet(START)[:2], (("print", 1), ("print", 4)))
        self.assertEqual(made.reason, "level")
        put(made, 1, newer(version=6, level=7))
        made.meet(START)
        made.meet(("feed", 0))
        self.assertEqual((made.note.sure, made.note.level, made.note.record), (1, 7, {"count": 4}))

    def test_saves_on_trial(self):
        units = plain_units([("push", 2), ("out",), *SAVES])
        made = updated(units)
        made.meet(START)
        self.assertEqual(made.meet(("feed", 6)), (("save", (("count", 6),)), ("done",)))
        self.assertEqual((made.trial, made.note.sure, made.note.tries, made.record), (True, 0, 1, {"count": 6}))
        # The record stays, whichever release runs.
        made.meet(START)
        self.assertEqual(made.meet(START)[:2], (("print", 1), ("print", 6)))

    def test_full(self):
        many = {f"m{k}": k for k in range(24)}
        made = device(plain_units(SAVES), limit=50)
        made.meet(START)
        made.meet(("feed", 1))
        made.send(newer(plain_units([("name", "m0", 0), ("load",), ("out",), ("save",), ("confirm",)], **many)))
        self.assertEqual(made.meet(START), (("print", 0), ("fault", "full")))
        self.assertEqual((made.record, made.trial, made.kind), ({"count": 1}, True, "fault"))
        self.assertEqual(made.note.record, {"count": 1})
        less = dict(list(many.items())[:23])
        made = device(plain_units(SAVES), limit=50)
        made.meet(START)
        made.meet(("feed", 1))
        made.send(newer(plain_units([("save",), ("confirm",)], **less)))
        self.assertEqual(made.meet(START), (("save", tuple(sorted(less.items()))), ("confirm",), ("done",)))
        self.assertEqual(made.record, {**less, "count": 1})

    def test_limits_of_a_trial(self):
        made = updated(SPINS, limit=10)
        self.assertEqual(made.meet(START), (("print", 3),) * 3 + (("late",),))
        self.assertEqual((made.kind, made.steps, made.trial, made.slot), ("late", 10, True, 1))
        self.fails(NotNow, ("lost",), made.meet, ("lost",))
        # A limit that is set while a run goes on counts from the next start on.
        made = updated(plain_units([("push", 2), ("out",), ("ask",), ("out",), ("ask",), ("confirm",), ("ask",), ("out",)]))
        made.meet(START)
        set_limit(made, 4)
        self.assertEqual(made.meet(("feed", 8)), (("print", 8), ("asks",)))
        self.assertEqual(made.meet(START), (("print", 2), ("asks",)))
        self.assertEqual(made.meet(("feed", 8)), (("print", 8), ("late",)))
        self.assertEqual(made.kind, "late")
        # The sure release has no limit.
        self.assertEqual((made.meet(START)[0], made.reason), (("print", 1), "tries"))
        made = device(SPINS, limit=1)
        told = made.meet(START)
        self.assertEqual((told[-1], len(told), made.steps, made.kind), (("runs",), 668, 2000, "runs"))

    def test_no_limit_behind_a_confirm(self):
        made = updated(plain_units([("confirm",), ("push", 3), ("out",), ("go", "begin")]), limit=1)
        told = made.meet(START)
        self.assertEqual((told[0], told[-1], made.trial), (("confirm",), ("runs",), False))

    def test_events(self):
        units = plain_units([("ask",), ("out",), ("far", "zz", "q", 0, 1), ("out",)],
                            [("f", 1, 1, [("dup",), ("out",)])])
        made = device(units)
        self.assertEqual((made.offers, made.wants), ((("f", 1, 1),), (("zz", "q", 0, 1),)))
        for event in ((), ["start"], ("start", 1), ("feed",), ("feed", 65536), ("feed", True), ("call", "g", (1,)),
                      ("call", "f", ()), ("call", "f", [1]), ("answer", 1), ("lost", 1), "start", None, ("send",)):
            self.fails(BadEvent, event, made.meet, event)
        for event in (("feed", 1), ("call", "f", (1,)), ("answer", (1,)), ("lost",)):
            self.fails(NotNow, event, made.meet, event)
        self.assertEqual(made.meet(START), (("asks",),))
        self.assertEqual(made.meet(("call", "f", (4,))), (("print", 4), ("back", (4,))))
        self.assertEqual(made.meet(("feed", 1)), (("print", 1), ("far", "zz", "q", (), 1)))
        for event in (("feed", 1), ("call", "f", (1,)), ("answer", ()), ("answer", (1, 2))):
            self.fails(NotNow, event, made.meet, event)
        self.assertEqual(made.meet(("answer", (5,))), (("print", 5), ("done",)))
        self.assertEqual(made.meet(("call", "f", (6,))), (("print", 6), ("back", (6,))))
        made.meet(START)
        made.meet(("feed", 1))
        self.assertEqual(made.meet(("lost",)), (("fault", "far"),))
        self.assertEqual(made.kind, "fault")

    def test_offers_of_the_release_that_runs(self):
        made = updated(plain_units([("confirm",), ("ask",)], [("g", 0, 1, [("push", 5)])]),
                       plain_units([("ask",)], [("f", 0, 1, [("push", 4)])]))
        self.assertEqual(made.offers, (("f", 0, 1),))
        self.assertEqual(made.meet(("call", "f", ())), (("back", (4,)),))
        made.meet(START)
        self.assertEqual(made.offers, (("g", 0, 1),))
        self.fails(BadEvent, ("call", "f", ()), made.meet, ("call", "f", ()))
        self.assertEqual(made.meet(("call", "g", ())), (("back", (5,)),))

    def test_errors_change_nothing(self):
        made = updated()
        made.meet(START)
        limit_power(made.flash, 3)
        before = state(made)
        for call, error in ((lambda: made.meet(("feed", -1)), BadEvent), (lambda: made.meet(("lost",)), NotNow),
                            (lambda: made.meet(START, -1), BadPower), (lambda: made.send((), True), BadPower),
                            (lambda: made.send(newer(version=9)), Refused), (lambda: set_limit(made, 0), BadLimit)):
            self.assertRaises(error, call)
            self.assertEqual(state(made), before)
            self.assertEqual(made.flash.left, 3)

    def test_record_belongs_to_the_caller(self):
        made = device()
        made.meet(START)
        made.meet(("feed", 5))
        made.record["count"] = 77
        made.note.record["count"] = 78
        self.assertEqual(made.note.record, {"count": 5})
        self.assertEqual(made.meet(START)[1], ("print", 5))


class Sendings(Checks):
    def test_off_and_trial(self):
        made = device()
        self.fails(Refused, "off", made.send, ())
        made.meet(START)
        self.assertIsNone(made.send(newer()))
        made.meet(START)
        self.fails(Refused, "trial", made.send, ())
        made.meet(("feed", 1))
        self.fails(Refused, "format", made.send, ())
        self.assertIsNone(made.send(newer(version=3, slot=0)))
        # A run on trial that has ended is on trial still.
        made = updated(plain_units([]))
        made.meet(START)
        self.assertEqual((made.kind, made.trial), ("done", True))
        self.fails(Refused, "trial", made.send, newer())

    def test_reasons(self):
        made = device(version=5, level=5)
        made.meet(START)
        words = newer(version=6, level=5)
        self.fails(Refused, "format", made.send, words[:-1])
        self.fails(Refused, "check", made.send, words[:1] + (9,) + words[2:])
        for told, reason, number in (({"secret": 9, "product": 9, "slot": 0, "level": 4}, "tag", None),
                                     ({"product": 9, "slot": 0, "level": 4}, "product", None),
                                     ({"slot": 0, "level": 4}, "home", None), ({"level": 4, "version": 4}, "level", 4),
                                     ({"level": 5, "version": 4}, "version", 4), ({"level": 6, "version": 5}, "version", 5)):
            with self.assertRaises(Refused) as caught:
                made.send(newer(**{"version": 6, **told}))
            self.assertEqual(caught.exception.reason, reason)
            cause = caught.exception.__cause__
            self.assertEqual(None if cause is None else (cause.__class__, cause.number),
                             None if number is None else (Stale, number))
        self.assertEqual(made.flash.slot_words(1), (65535,) * 1024)
        self.assertIsNone(made.send(words))

    def test_what_is_written(self):
        made = device()
        made.meet(START)
        made.meet(("feed", 8))
        put(made, 1, (3,) * 1024)
        words = newer()
        before = made.note.serial
        self.assertIsNone(made.send(words + (4,) * 50))
        self.assertEqual(made.flash.slot_words(1), words + (65535,) * (1024 - len(words)))
        self.assertTrue(made.note == Note((before + 1) % 3, 0, 0, 0, {"count": 8}))
        self.assertTrue(made.image_in(1) == Image(words))

    def test_the_run_goes_on(self):
        made = updated()
        self.assertEqual((made.kind, made.slot, made.trial, made.steps), ("asks", 0, False, 6))
        self.assertEqual(made.meet(("feed", 3)), (("save", (("count", 3),)), ("done",)))
        self.assertEqual((made.note.tries, made.note.sure), (0, 0))
        self.assertEqual(made.meet(START)[:2], (("print", 2), ("print", 3)))

    def test_the_longest_image(self):
        body = [unit("app", code("main", [("ask",), ("halt",)], [("begin", 0)])),
                unit("big", *[code(f"c{k}", [("push", 1)] * 46 + [("halt",)]) for k in range(5)])]
        words = image(body, home=HOMES[1], version=2)
        self.assertGreater(len(words), 540)
        made = device()
        made.meet(START)
        made.send(words)
        self.assertEqual(made.meet(START), (("asks",),))
        self.assertEqual(made.slot, 1)


class Losses(Checks):
    def units_of(self, make, do):
        """How many units something takes, with all that the device tells behind each number of them."""
        rows = []
        while True:
            made = make()
            try:
                do(made, len(rows))
            except PowerLost as error:
                rows.append((made, error.seen))
                continue
            self.assertIsNone(made.flash.left)
            return rows, made

    def check_off(self, made):
        self.assertEqual((made.kind, made.trial), ("off", False))
        self.assertIsNone(made.flash.left)
        for event in (("feed", 1), ("lost",)):
            self.fails(NotNow, event, made.meet, event)
        self.fails(Refused, "off", made.send, newer(version=9))

    def test_starts_on_trial(self):
        rows, made = self.units_of(updated, lambda each, power: each.meet(START, power))
        self.assertEqual(len(rows), 8 + 9)
        for each, seen in rows:
            self.assertEqual((seen, each.slot, each.reason, each.note.tries), ((), 0, "format", 0))
            self.assertEqual((each.offers, each.read_units()), ((), program_units(ELDER)))
            self.check_off(each)
            self.assertEqual(each.meet(START)[0], ("print", 2))
            self.assertEqual(each.note.tries, 1)
        self.assertEqual(made.note.tries, 1)

    def test_the_first_start_on_trial(self):
        def make():
            made = device()
            put(made, 1, newer())
            return made

        rows, made = self.units_of(make, lambda each, power: each.meet(START, power))
        for each, seen in rows:
            self.assertEqual((each.slot, each.reason, each.read_units()), (None, None, program_units(ELDER)))
        self.assertEqual((made.slot, made.trial), (1, True))

    def test_saves(self):
        units = plain_units([("push", 1), ("out",), ("ask",), ("out",), ("save",), ("push", 4), ("out",), ("save",)])

        def make():
            made = device(units)
            made.meet(START)
            return made

        rows, made = self.units_of(make, lambda each, power: each.meet(("feed", 7), power))
        saved = ("save", (("count", 0),))
        one = 8 + 9 + 4
        self.assertEqual(len(rows), 2 * one)
        for units, (each, seen) in enumerate(rows):
            whole = units >= one
            self.assertEqual(seen, (("print", 7),) + ((saved, ("print", 4)) if whole else ()))
            self.assertEqual((each.record, each.note.record), (({"count": 0},) * 2 if whole else ({}, {})))
            self.assertEqual(each.slot, 0)
            self.check_off(each)
            self.assertEqual(each.meet(START), (("print", 1), ("asks",)))

    def test_confirms(self):
        def make():
            made = updated(level=3)
            made.meet(START)
            return made

        rows, made = self.units_of(make, lambda each, power: each.meet(("feed", 7), power))
        self.assertEqual(len(rows), 8 + 9)
        for each, seen in rows:
            self.assertEqual((seen, each.slot, each.note.sure, each.note.tries, each.note.level), ((), 1, 0, 1, 0))
            self.check_off(each)
            self.assertEqual(each.offers, ())
            self.assertEqual(each.meet(START)[0], ("print", 2))
            self.assertEqual((each.note.tries, each.trial), (2, True))
        self.assertEqual((made.note.sure, made.note.tries, made.note.level, made.trial), (1, 0, 3, False))

    def test_confirms_of_the_sure_one_take_no_power(self):
        made = device(plain_units([("confirm",), ("push", 1), ("out",)]))
        self.assertEqual(made.meet(START, 0), (("confirm",), ("print", 1), ("done",)))

    def test_sendings(self):
        words, old = newer(version=4), newer(version=3)

        def make():
            made = updated(version=3)
            made.meet(("feed", 5))
            return made

        rows, made = self.units_of(make, lambda each, power: each.send(words, power))
        size = sum(max([0] + [k + 1 for k in range(16) if words[at + k:at + k + 1] not in ((), (65535,))])
                   for at in range(0, len(words), 16))
        self.assertEqual(len(rows), 64 + 8 + 9 + 4 + size)
        sure = made.flash.slot_words(0)
        for units, (each, seen) in enumerate(rows):
            self.assertEqual(seen, ())
            self.check_off(each)
            self.assertEqual((each.flash.slot_words(0), each.record, each.note.level, each.slot), (sure, {"count": 5}, 0, 0))
            self.assertEqual(each.note.sure, 0)
            if units == 0:
                self.assertTrue(each.image_in(1) == Image(old))
                self.assertEqual((each.meet(START)[:2], each.trial), ((("print", 2), ("print", 5)), True))
            else:
                self.assertRaises(BadImage, each.image_in, 1) if units < len(rows) - 4 else None
                self.assertEqual((each.meet(START)[:2], each.slot), ((("print", 1), ("print", 5)), 0))
                self.assertIn(each.reason, ("format", "check", "tag"))
                # It can be sent again.
                each.send(words)
                self.assertEqual(each.meet(START)[0], ("print", 2))
        self.assertEqual((made.kind, made.meet(START)[0]), ("done", ("print", 2)))

    def test_refusals_take_no_power(self):
        made = updated()
        self.fails(Refused, "version", made.send, newer(version=1), 0)
        self.assertEqual(made.kind, "asks")
        with self.assertRaises(PowerLost):
            made.send(newer(version=3), 0)
        self.check_off(made)

    def test_bad_power(self):
        made = updated()
        for power in (-1, True, False, "1", (1,)):
            self.fails(BadPower, power, made.meet, ("nothing",), power)
            self.fails(BadPower, power, made.send, (), power)

    def test_a_limit_of_the_flash_ends_with_an_event(self):
        made = updated()
        limit_power(made.flash, 0)
        self.assertEqual(made.meet(START)[0], ("print", 2))
        self.assertIsNone(made.flash.left)

    def test_whatever_is_lost_whenever(self):
        for seed in range(25):
            rng = seeded("lost", seed)
            units = [made_units(rng) for _ in range(8)]
            sent = [None] * 2
            made = Device(made_image(units[0], rng), product=7, secret=SECRET, homes=HOMES, limit=rng.choice([30, 2000]))
            sent[0] = [made.image_in(0).words]
            sent[1] = []
            version, level = 1, 0
            for _ in range(25):
                note = made.note
                self.assertEqual(made.record, note.record)
                sure = made.image_in(note.sure)
                self.assertIn(sure.words, sent[note.sure])
                self.assertGreaterEqual((sure.version, note.level, sure.level), (version, level, level))
                self.assertEqual(note.level, sure.level)
                version, level = sure.version, sure.level
                other = made.flash.slot_words(1 - note.sure)
                if made.judge(1 - note.sure) is None:
                    self.assertIn(made.image_in(1 - note.sure).words, sent[1 - note.sure])
                    self.assertEqual(set(other[other[6]:]) - {65535}, set())
                power = rng.choice([None, rng.randint(0, 500)])
                try:
                    if rng.random() < 0.4:
                        slot = 1 - note.sure
                        words = made_image(rng.choice(units), rng, home=HOMES[slot], version=rng.randint(version, version + 2),
                                           level=rng.randint(level, level + 1))
                        sent[slot].append(words)
                        made.send(words, power)
                    else:
                        event = rng.choice([START, ("feed", 1), ("feed", 0), ("lost",), ("call", "serve", (1,))])
                        made.meet(event, power)
                except RomError as error:
                    if isinstance(error, PowerLost):
                        self.assertEqual((made.kind, made.trial), ("off", False))


class Overlays(Checks):
    def test_programs_by_chance(self):
        met = 0
        for seed in range(60):
            script, units, archives, picked = made_picked(seed)
            rng = seeded("overlays", seed)
            homes = rng.choice([(3000, 40000), (40000, 3000)])
            try:
                words = image_of(link(rng.choice(list(layings(picked, homes[0])))), product=7, version=1, level=0, secret=1)
            except (RomError, IndexError):
                continue
            made = Device(words, product=7, secret=1, homes=homes)
            lone = Lone(picked.program)
            for _ in range(10):
                events = list(lone.events((0, 1, 7)))
                event = rng.choice(events[1:] or events)
                told = lone.meet(event)
                if told[-1] == ("hangs",):
                    break
                self.assertEqual(made.meet(event), told)
                self.assertEqual((made.kind, made.steps, made.record), (lone.kind, lone.steps, lone.record))
                self.assertEqual((made.offers, made.wants), (lone.offers, lone.wants))
                if len(script.overlays) == 0:
                    self.assertEqual(made.printed_at, lone.printed_at)
                met += 1
            self.assertEqual(made.read_units(), picked.kept_units())
        self.assertGreater(met, 300)


class FromTheFlash(Checks):
    def test_units_of_the_release_that_runs(self):
        made = updated()
        self.assertEqual(made.read_units(), program_units(ELDER))
        made.meet(START)
        self.assertEqual(made.read_units(), program_units(NEWER))
        made.meet(START)
        made.meet(START)
        self.assertEqual((made.reason, made.read_units()), ("tries", program_units(ELDER)))

    def test_where_words_were_printed(self):
        body = [("push", 9), ("call", "f"), ("ask",), ("far", "zz", "q", 0, 0), ("out",)]
        units = [unit("app", code("main", [*body, ("halt",)], [("begin", 0)]),
                      code("f", [("push", 4), ("out",), ("dup",), ("out",), ("ret",)], [("f", 0)]),
                      code("g", [("out",), ("call", "f"), ("ret",)], [("g", 0)], [("g", 2, 1)]),
                      code("fix", [("go", "begin")], fixed=True), kept("k", count=0))]
        made = updated(plain_units([("push", 3), ("out",), ("push", 3), ("out",), ("halt",)]), units)
        lone = Lone(joined(units, "begin"))
        events = [START, ("call", "g", (7, 8)), ("feed", 5), ("lost",)]
        for event in events[:1]:
            lone.meet(event)
        self.assertEqual(made.printed_at, (("app.f", 1), ("app.f", 3)))
        self.assertEqual(made.printed_at, lone.printed_at)
        for event in events[1:]:
            self.assertEqual(made.meet(event), lone.meet(event))
            self.assertEqual(made.printed_at, lone.printed_at)
        self.assertEqual(made.printed_at, ())
        made.meet(START)
        self.assertEqual((made.slot, made.printed_at), (1, (("app.main", 1), ("app.main", 3))))
        made.meet(START)
        made.meet(START)
        self.assertEqual((made.slot, made.printed_at), (0, (("app.f", 1), ("app.f", 3))))

    def test_through_veneers(self):
        far = [("push", 1)] * 60 + [("drop",)] * 60
        units = [unit("app", code("main", [("call", "p"), ("halt",)], [("begin", 0)], fixed=True),
                      code("pad", far[:99] + [("halt",)]), code("pad2", far[:99] + [("halt",)]),
                      code("print", [("push", 6), ("out",), ("ret",)], [("p", 0)]))]
        made = Device(image(units), product=7, secret=SECRET, homes=HOMES)
        self.assertEqual(made.meet(START), (("print", 6), ("done",)))
        self.assertEqual(made.printed_at, (("app.print", 1),))

    def test_offers_and_wants_by_chance(self):
        for seed in range(20):
            rng = seeded("flash", seed)
            first, second = made_units(rng), made_units(rng)
            made = Device(made_image(first, rng), product=7, secret=SECRET, homes=HOMES)
            made.meet(START)
            made.send(made_image(second, rng, home=HOMES[1], version=2))
            for units, slot in ((first, 0), (second, 1)):
                told = program_of(units)
                self.assertEqual((made.slot, made.offers, made.wants), (slot, told.offers, told.wants))
                self.assertEqual(joined(made.read_units(), "begin"), told)
                self.assertEqual(made.image_in(slot).read_units(), made.read_units())
                made.meet(START)


if __name__ == "__main__":
    unittest.main()
