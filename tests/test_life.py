"""Lives by names, turns for devices, and courses as text, [60] to [63]."""

import unittest
from unittest import mock

import romwright.device
from checks import cells, Checks, code, kept, program, unit
from making import made_picked
from releases import HOMES, image, made_image, made_units, plain_units, program_of, SCRIPTS, SECRET, seeded
from romwright.alike import Alphabet
from romwright.device import Device, set_limit
from romwright.flash import write_note
from romwright.image import Image, image_of
from romwright.lay import lay
from romwright.life import built, course_of, Life, turned
from romwright.link import link
from romwright.machine import Board
from romwright.named import Lone
from romwright.pick import Archive, pick
from romwright.plain import BadBase, BadEvent, BadHome, BadLine, BadReleases, BadWord, CannotKeep, Missing, NoFit, NotNow
from romwright.plain import PowerLost, Refused, RomError, Stale, TooLong, TooMany, Twice, Unplaced
from romwright.reach import Confirm, confirms, Never
from romwright.script import Script
from romwright.turn import Release
from romwright.units import Section

START = ("start",)
SAVES = [("ask",), ("name", "count", 0), ("store",), ("save",)]
ELDER = plain_units([("push", 1), ("out",), ("name", "count", 0), ("load",), ("out",), *SAVES])
NEWER = plain_units([("push", 2), ("out",), ("ask",), ("drop",), ("confirm",), *SAVES])


def life(units=ELDER, version=1, level=0, limit=2000):
    return Life(program_of(units), version=version, level=level, limit=limit)


def updated(units=NEWER, version=2, level=0, **told):
    made = life(**told)
    made.meet(START)
    made.send(program_of(units), version=version, level=level)
    return made


class Built(Checks):
    def test_example(self):
        main = code("main", [("name", "count", 0), ("load",), ("out",), ("halt",)], [("begin", 0)])
        app = unit("app", main, kept("store", count=5))
        script = Script(["region flash rom 16 100", "region work ram 1 20",
                         "place text in flash align 1 fill 0 take *.[code]",
                         "place vars in work load flash align 1 fill 0 take *.[kept]", "entry begin"])
        self.assertEqual(built(script, [app], 1000).content, (256, 1, 2816, 5120, 6656, 5))

    def test_as_pick_lay_and_link(self):
        for seed in range(10):
            script, units, archives, picked = made_picked(seed)
            try:
                want = link(lay(picked, 3000))
            except RomError as error:
                self.assertRaises(error.__class__, built, script, units, 3000, archives)
                continue
            self.assertTrue(built(script, units, 3000, archives) == want)

    def test_archives_and_confirms(self):
        lines = [*SCRIPTS[0], "claim confirms < 10"]
        archive = Archive("lib", [unit("l", code("f", [("ret",)], [("f", 0)]))])
        main = [unit("app", code("main", [("call", "f"), ("halt",)], [("begin", 0)]))]
        self.assertEqual(len(built(Script(lines), main, 1000, [archive], 9)), 3)
        self.fails(CannotKeep, 0, built, Script(lines), main, 1000, [archive], 10)
        self.fails(CannotKeep, 0, built, Script(lines), main, 1000, [archive])
        self.fails(Missing, "f", built, Script(lines), main, 0, (), 9)
        self.fails(BadHome, 0, built, Script(lines), main, 0, [archive], 9)


class Lives(Checks):
    def test_at_first(self):
        made = Life(program_of(ELDER), version=5, level=7)
        self.assertEqual((made.kind, made.steps, made.trial, made.reason, made.record), ("off", 0, False, None, {}))
        self.assertEqual((made.offers, made.wants, made.printed_at), ((), (), ()))
        self.assertEqual((made.level, made.version, made.limit), (7, 5, 2000))
        self.assertEqual(life(limit=9).limit, 9)

    def test_runs(self):
        made = life()
        self.assertEqual(made.meet(START), (("print", 1), ("print", 0), ("asks",)))
        self.assertEqual((made.reason, made.kind, made.steps), ("format", "asks", 6))
        self.assertEqual(made.printed_at, (("app.main", 1), ("app.main", 4)))
        self.assertEqual(made.meet(("feed", 4)), (("save", (("count", 4),)), ("done",)))
        self.assertEqual((made.record, made.printed_at, made.steps), ({"count": 4}, (), 10))
        self.fails(NotNow, ("feed", 4), made.meet, ("feed", 4))
        self.fails(BadEvent, ("feed", -1), made.meet, ("feed", -1))
        self.assertEqual(made.meet(START)[1], ("print", 4))

    def test_trial_confirm_and_fall_back(self):
        made = updated(level=3)
        self.assertEqual((made.level, made.version), (0, 1))
        self.assertEqual(made.meet(START), (("print", 2), ("asks",)))
        self.assertEqual((made.trial, made.reason, made.level, made.version), (True, None, 0, 1))
        self.assertEqual(made.meet(("feed", 1)), (("confirm",), ("asks",)))
        self.assertEqual((made.trial, made.level, made.version), (False, 3, 2))
        self.assertEqual(made.meet(START)[0], ("print", 2))
        self.assertEqual((made.reason, made.trial), ("level", False))
        made = updated()
        for _ in range(2):
            made.meet(START)
            self.assertTrue(made.trial)
        self.assertEqual((made.meet(START)[0], made.reason, made.version), (("print", 1), "tries", 1))
        made.send(program_of(NEWER), version=2, level=0)
        self.assertEqual(made.meet(START)[0], ("print", 2))
        made.meet(("feed", 1))
        made.meet(START)
        self.assertEqual(made.reason, "version")

    def test_refusals(self):
        newer = program_of(NEWER)
        made = life(version=5, level=5)
        self.fails(Refused, "off", made.send, newer, version=0, level=0)
        self.fails(Refused, "off", made.send, newer, version=6, level=5, lost="ahead")
        made.meet(START)
        self.fails(Refused, "level", made.send, newer, version=4, level=4)
        self.fails(Refused, "version", made.send, newer, version=5, level=6)
        self.fails(Refused, "version", made.send, newer, version=5, level=5, lost="amid")
        self.assertEqual(made.kind, "asks")
        self.assertIsNone(made.send(newer, version=6, level=5))
        made.meet(START)
        self.fails(Refused, "trial", made.send, newer, version=1, level=1)

    def test_limits(self):
        spins = plain_units([("push", 3), ("out",), ("go", "begin")])
        made = updated(spins, limit=4)
        self.assertEqual(made.meet(START)[-1], ("late",))
        self.assertEqual((made.steps, made.kind, made.trial), (4, "late", True))
        made.limit = 7
        made.meet(START)
        self.assertEqual(made.steps, 7)
        made.meet(START)
        self.assertEqual((made.reason, made.kind), ("tries", "asks"))

    def test_hangs(self):
        made = updated(plain_units([("name", "count", 0), ("out",)]))
        self.assertEqual(made.meet(START), (("hangs",),))
        self.assertEqual(made.kind, "hangs")

    def test_notes_that_are_lost(self):
        units = plain_units([("confirm",), ("push", 4), ("out",), ("save",), ("push", 5), ("out",), ("save",)])
        saved = ("save", (("count", 0),))
        whole = (("confirm",), ("print", 4), saved, ("print", 5), saved, ("done",))
        for notes, seen in ((0, ()), (1, ()), (2, whole[:2]), (3, whole[:4])):
            made = updated(units)
            self.fails(PowerLost, seen, made.meet, START, notes)
            self.assertEqual((made.kind, made.trial, made.version), ("off", False, 1 if notes < 2 else 2))
            self.assertEqual(made.record, {"count": 0} if notes == 3 else {})
            self.fails(NotNow, ("lost",), made.meet, ("lost",))
            # There is no limit in the next event, if none is told.
            self.assertEqual(made.meet(START), whole)
        for notes in (4, 9, None):
            self.assertEqual(updated(units).meet(START, notes), whole)

    def test_updates_that_are_lost(self):
        newer = program_of(NEWER)
        made = updated()
        self.fails(PowerLost, (), made.send, newer, version=3, level=0, lost="ahead")
        self.assertEqual((made.kind, made.trial), ("off", False))
        self.fails(Refused, "off", made.send, newer, version=3, level=0)
        self.assertEqual((made.meet(START)[0], made.trial), (("print", 2), True))
        made = updated()
        self.fails(PowerLost, (), made.send, newer, version=3, level=0, lost="amid")
        self.assertEqual((made.kind, made.meet(START)[0], made.reason), ("off", ("print", 1), "format"))
        made.send(newer, version=2, level=0)
        self.assertEqual(made.meet(START)[0], ("print", 2))


def told_state(made):
    # A torn image is refused with a reason of [46]; a life has no program then.
    reason = "format" if made.reason in ("check", "tag") else made.reason
    return (made.kind, made.trial, reason, made.record, made.offers, made.wants)


class Pair:
    """A device and a life that meet the same events and updates."""

    def __init__(self, seed):
        self.rng = seeded("pair", seed)
        units = made_units(self.rng)
        limit = self.rng.choice([1, 5, 20, 60, 2000])
        level = self.rng.randint(0, 2)
        self.device = Device(made_image(units, self.rng, level=level), product=7, secret=SECRET, homes=HOMES, limit=limit)
        self.life = Life(program_of(units), version=1, level=level, limit=limit)
        self.kinds = []

    def both(self, first, second):
        rows = []
        for call in (first, second):
            try:
                rows.append(("told", call()))
            except PowerLost as error:
                rows.append(("lost", error.seen))
            except Refused as error:
                rows.append(("refused", error.reason))
        return rows

    def send(self):
        rng = self.rng
        units = made_units(rng)
        version, level = rng.randint(0, 6), rng.randint(0, 3)
        words = made_image(units, rng, home=HOMES[1 - self.device.note.sure], version=version, level=level)
        power = rng.choice([None, None, 0, 1, rng.randint(2, 400)])
        lost = []

        def second():
            return self.life.send(program_of(units), version=version, level=level, lost=lost[0] if lost else None)

        def first():
            try:
                self.device.send(words, power)
            except PowerLost:
                lost.append("amid" if power else "ahead")
                raise

        return self.both(first, second)

    def meet(self):
        rng = self.rng
        events = [START]
        if self.life.kind == "asks":
            events += [("feed", rng.randint(0, 3))] * 3
        if self.life.kind == "far":
            events += [("answer", (rng.randint(0, 3),)), ("lost",)]
        if self.life.kind in ("asks", "done"):
            events += [("call", name, (1,) * takes) for name, takes, _ in self.life.offers]
        event = rng.choice(events)
        power = rng.choice([None, None, rng.randint(0, 60), rng.randint(0, 300)])
        notes = []

        def write(*args, **more):
            write_note(*args, **more)
            notes.append(1)

        def first():
            with mock.patch.object(romwright.device, "write_note", write):
                try:
                    return self.device.meet(event, power)
                except PowerLost:
                    notes.append(None)
                    raise

        def second():
            return self.life.meet(event, len(notes) - 1 if None in notes else None)

        return self.both(first, second)


class SideBySide(Checks):
    def test_devices_and_lives(self):
        kinds = {}
        for seed in range(120):
            pair = Pair(seed)
            for _ in range(pair.rng.randint(5, 30)):
                self.assertEqual(told_state(pair.device), told_state(pair.life), seed)
                if pair.life.kind != "off":
                    self.assertEqual(pair.device.steps, pair.life.steps)
                    self.assertEqual(pair.device.printed_at, pair.life.printed_at)
                self.assertEqual(pair.device.note.level, pair.life.level)
                self.assertEqual(pair.device.image_in(pair.device.note.sure).version, pair.life.version)
                first, second = pair.send() if pair.rng.random() < 0.3 else pair.meet()
                self.assertEqual(first, second, seed)
                kinds[first[0]] = kinds.get(first[0], 0) + 1
                if first[0] == "told" and first[1] is not None and first[1][-1] == ("hangs",):
                    break
        self.assertGreater(min(kinds.values()), 30)


def trying(rng):
    """The units of a program by chance that asks, calls, spins and confirms."""
    body = []
    for _ in range(rng.randint(1, 3)):
        body += rng.choice([[("ask",), ("unless", "one"), ("push", 1), ("drop",)], [("push", 5), ("out",)], [("ask",), ("drop",)],
                            [("far", "zz", "q", 0, 1), ("unless", "two")], [("name", "count", 0), ("load",), ("unless", "two")]])
    end = rng.choice([[("go", "begin")], [("confirm",), ("ask",), ("go", "begin")]])
    one = code("first", [("push", 1), ("drop",), ("confirm",), ("go", "begin")], [("one", 0)])
    two = code("second", [("ask",), ("drop",), ("confirm",), ("halt",)], [("two", 0)])
    main = code("main", body + end, [("begin", 0)])
    return [unit("app", main, one, two, kept("store", count=rng.randint(0, 1)))]


class LateOrNot(Checks):
    def tried(self, words, record, limit):
        """A device on trial with this image, record and limit, behind no start."""
        made = Device(image(ELDER), product=7, secret=SECRET, homes=HOMES, limit=limit)
        made.meet(START)
        made.send(words)
        write_note(made.flash, sure=0, tries=0, level=0, record=record)
        return made

    def test_limits_of_the_number_that_is_told(self):
        found = 0
        for seed in range(120):
            rng = seeded("late", seed)
            units = trying(rng)
            record = rng.choice([{}, {"count": 0}, {"count": 1}])
            told = confirms(program_of(units), Alphabet((0, 1)), record)
            if isinstance(told, Never):
                continue
            self.assertIsInstance(told, Confirm)
            found += 1
            for which in range(3):
                words = made_image(units, rng, home=HOMES[1], version=2)
                made = self.tried(words, record, told.steps)
                seen = [made.meet(event) for event in told.row]
                self.assertEqual((made.trial, made.slot), (False, 1))
                self.assertIn(("confirm",), seen[-1])
                if told.steps > 1:
                    made = self.tried(words, record, told.steps - 1)
                    for event in told.row:
                        last = made.meet(event)[-1]
                    self.assertEqual((last, made.trial), (("late",), True))
                for _ in range(5):
                    made = self.tried(words, record, told.steps)
                    event = START
                    for _ in range(8):
                        self.assertNotIn(("late",), made.meet(event))
                        if made.kind not in ("asks", "far"):
                            break
                        word = rng.randint(0, 1)
                        event = ("feed", word) if made.kind == "asks" else ("answer", (word,))
        self.assertGreater(found, 15)

    def test_one_number_for_all_layings(self):
        units = plain_units([("push", 3), ("drop",), ("ask",), ("unless", "begin"), ("confirm",)])
        self.assertIsInstance(confirms(program_of(units), Alphabet((0, 1))), Never)
        told = confirms(program_of(units), Alphabet((1, 2)))
        self.assertEqual((told.steps, told.row), (5, (START, ("feed", 1))))
        for script in range(2):
            for which in range(3):
                for limit, last in ((5, ("done",)), (4, ("late",))):
                    made = self.tried(image(units, home=HOMES[1], version=2, script=script, which=which), {}, limit)
                    made.meet(START)
                    self.assertEqual(made.meet(("feed", 1))[-1], last)


class Turned(Checks):
    LINES = SCRIPTS[0]

    def device(self, script=0, which=0):
        made = Device(image(ELDER, script=script, which=which), product=7, secret=SECRET, homes=HOMES)
        made.meet(START)
        return made

    def turn(self, units=NEWER, made=None):
        return Release(units) - Release((made or self.device()).read_units())

    def test_scripts_and_layings(self):
        for script in range(2):
            for which in range(3):
                made = self.device(script, which)
                words = turned(made, Script(SCRIPTS[script]), self.turn(), version=2, level=3)
                told = Image(words)
                self.assertEqual((told.product, told.version, told.level, told.home), (7, 2, 3, HOMES[1]))
                self.assertEqual(told.content, built(Script(SCRIPTS[script]), NEWER, HOMES[1]).content)
                made.send(words)
                lone = Lone(program_of(NEWER))
                for event in (START, ("feed", 1), ("feed", 2), START):
                    self.assertEqual(made.meet(event), lone.meet(event))
                self.assertEqual(made.slot, 1)
                # The next one is for the other slot.
                words = turned(made, Script(SCRIPTS[script]), Release(ELDER) - Release(made.read_units()), version=3, level=3)
                self.assertEqual(Image(words).home, HOMES[0])

    def test_the_release_of_the_sure_slot(self):
        made = self.device()
        made.send(image(NEWER, home=HOMES[1], version=2))
        made.meet(START)
        self.assertEqual((made.slot, made.trial), (1, True))
        words = turned(made, Script(SCRIPTS[0]), self.turn(), version=3, level=0)
        self.assertEqual(Image(words).home, HOMES[1])
        self.assertEqual(Image(words).content, made.image_in(1).content)

    def test_each_step_can_be_refused(self):
        made = self.device()
        script = Script(SCRIPTS[0])
        turn = self.turn()
        mark = Release(made.read_units()).mark
        many = plain_units([("push", 1)], **{f"n{k}": 0 for k in range(90)})
        long = many + [unit("z", *[cells(f"c{k}", "const", [0] * 50) for k in range(8)])]
        wide = Script([line.replace("16 500", "16 1500").replace("1 60", "1 300") for line in SCRIPTS[0]])
        data = plain_units([("halt",)]) + [unit("data", cells("d", "data", [0] * 100))]
        with_claim = Script([*SCRIPTS[0], "claim home = 1"])
        low = Script([line.replace("ram 1 60", "ram 6000 60") for line in SCRIPTS[0]])
        before = [made.flash[page] for page in range(144)]
        no_rest = Script([line for line in SCRIPTS[0] if "vars" not in line])
        lost = plain_units([("call", "nothing")])
        for lines, units, version, error, told in (
                (no_rest, NEWER, -1, Unplaced, "app.store"), (script, lost, -1, Missing, "nothing"),
                (script, data, -1, NoFit, 0), (with_claim, NEWER, -1, CannotKeep, 0), (low, NEWER, -1, BadHome, HOMES[1]),
                (wide, long, -1, BadWord, -1), (wide, long, 70000, BadWord, 70000)):
            self.fails(error, told, turned, made, lines, self.turn(units), version=version, level=0)
        self.assertRaises(TooLong, turned, made, wide, self.turn(long), version=2, level=0)
        self.fails(BadWord, -1, turned, made, script, turn, version=2, level=-1)
        other = Release(ELDER) - Release(NEWER)
        self.fails(BadBase, mark, turned, made, no_rest, other, version=-1, level=0)
        self.assertEqual([made.flash[page] for page in range(144)], before)
        self.assertEqual((made.kind, made.slot, made.meet(("feed", 1))[-1]), ("asks", 0, ("done",)))

    def test_one_turn_for_all_devices(self):
        for seed in range(12):
            rng = seeded("turned", seed)
            elder, newer = made_units(rng), made_units(rng)
            elder = [unit("app", *[Section(each.name, each.kind, each.body, symbols=each.symbols, exports=each.exports)
                                   for each in elder[0]])]
            turn = Release(newer) - Release(elder)
            lone = Lone(program_of(newer))
            rows = [START] + [("feed", 1)] * 3
            want = []
            for event in rows:
                try:
                    want.append(lone.meet(event))
                except NotNow:
                    break
            if ("hangs",) in want[-1]:
                continue
            for script in range(2):
                for homes in (HOMES, (30000, 20000)):
                    words = image(elder, home=homes[0], script=script, which=seed)
                    made = Device(words, product=7, secret=SECRET, homes=homes, limit=60000)
                    made.meet(START)
                    made.send(turned(made, Script(SCRIPTS[script]), turn, version=2, level=0))
                    # The record is that of the elder release.
                    write_note(made.flash, sure=0, tries=0, level=0, record={})
                    self.assertEqual([made.meet(event) for event in rows[:len(want)]], want)
                    self.assertEqual(made.slot, 1)

    def test_boards_with_turned_images(self):
        made = self.device(1, 1)
        words = turned(made, Script(SCRIPTS[1]), self.turn(), version=2, level=0)
        board, lone = Board(Image(words).read_setup()), Lone(program_of(NEWER))
        for event in (START, ("feed", 9), ("feed", 8), START):
            self.assertEqual(board.meet(event), lone.meet(event))
        self.assertEqual(words, image_of(link(lay(pick(Script(SCRIPTS[1]), NEWER), HOMES[1])), product=7, version=2, level=0,
                                         secret=SECRET))


COURSE = ["device a", "release", "offer f 0 0", "offer g 1 2", "want b h 2 0", "release", "device b", "release",
          "want a f 0 0", "offer h 2 0", "want a g 1 2", "release", "want a f 0 0"]


class Courses(Checks):
    def test_course(self):
        told = course_of(COURSE)
        self.assertEqual(told.names, ("a", "b"))
        self.assertEqual(told.releases, ((((("f", 0, 0), ("g", 1, 2)), (("b", "h", 2, 0),)), ((), ())),
                                         (((("h", 2, 0),), (("a", "f", 0, 0), ("a", "g", 1, 2))), ((), (("a", "f", 0, 0),)))))
        self.assertEqual(course_of(tuple(COURSE)).releases, told.releases)

    def test_as_a_program_has_them(self):
        told = course_of(["device a", "release", "want c x 0 0", "offer g 0 0", "want b y 0 0", "offer f 0 0"])
        self.assertEqual(told.releases, ((((("f", 0, 0), ("g", 0, 0)), (("b", "y", 0, 0), ("c", "x", 0, 0))),),))

    def test_wrong_lines(self):
        wrong = ["", " ", "device", "device A", "device a b", "device  a", "device a ", "release 1", " release", "Release",
                 "releases", "offer", "offer f", "offer f 0", "offer f 0 3", "offer f 3 0", "offer f 0 00", "offer f 01 0",
                 "offer f -1 0", "offer f 0 0 0", "offer F 0 0", "offer f  0 0", "offer f a 0", "offer f 0 0 ", "want b q 0",
                 "want b q 0 0 0", "want B q 0 0", "want b Q 0 0", "want b q 3 0", "want b q 0 3", "want q 0 0", "want",
                 "wants b q 0 0", "# device", "offer f 99999999999 0", "device aaaaaaaaaa"]
        for place in (2, 5, 6, 9, len(COURSE)):
            for line in wrong:
                self.fails(BadLine, place, course_of, COURSE[:place] + [line] + COURSE[place:])

    def test_lines_that_cannot_stand_there(self):
        for line in ("release", "offer f 0 0", "want b q 0 0"):
            self.fails(BadLine, 0, course_of, [line])
        for line in ("offer f 0 0", "want b q 0 0"):
            self.fails(BadLine, 1, course_of, ["device a", line])
            self.fails(BadLine, 3, course_of, ["device a", "release", "device b", line])

    def test_repeated(self):
        head = ["device a", "release", "offer f 0 0", "want b q 0 1"]
        for line in ("offer f 0 0", "offer f 1 2", "want b q 0 1"):
            self.fails(BadLine, 4, course_of, head + [line])
        for line in ("want b q 0 0", "want c q 0 1", "want b r 0 1", "offer q 0 1"):
            course_of(head + [line])
        course_of(head + ["release"] + head[2:])

    def test_errors_of_courses(self):
        self.fails(BadLine, 12, course_of, ["device a", "release"] * 6 + ["wrong"])
        self.fails(TooMany, 4, course_of, [line for name in "aabcde" for line in (f"device {name}", "release")])
        self.fails(Twice, "a", course_of, ["device a", "device b", "device a"])
        self.fails(BadReleases, 1, course_of, ["device a", "release", "device b", "device c"])
        self.fails(BadReleases, 0, course_of, ["device a"] + ["release"] * 5)
        self.assertEqual(len(course_of(["device a"] + ["release"] * 4).releases[0]), 4)


class Refusals(Checks):
    def test_devices_tell_what_was_too_low(self):
        made = Device(image(ELDER, version=3, level=2), product=7, secret=SECRET, homes=HOMES)
        made.meet(START)
        for version, level, reason, number in ((9, 1, "level", 1), (3, 2, "version", 3)):
            with self.assertRaises(Refused) as caught:
                made.send(image(NEWER, home=HOMES[1], version=version, level=level))
            self.assertEqual(caught.exception.reason, reason)
            self.assertIs(caught.exception.__cause__.__class__, Stale)
            self.assertEqual(caught.exception.__cause__.number, number)
        set_limit(made, 3)
        self.assertEqual(program([("halt",)]).offers, ())


if __name__ == "__main__":
    unittest.main()
