"""Fleets, [53], [54] and [65]."""

import unittest

from checks import cells, Checks, code, kept, program, unit
from releases import HOMES, image, plain_units, program_of, SCRIPTS, SECRET, seeded
from romwright.alike import alike, Alphabet, Table
from romwright.device import Device
from romwright.fleet import Fleet
from romwright.joining import joined
from romwright.lay import layings
from romwright.life import Life
from romwright.link import link
from romwright.machine import Board
from romwright.named import Lone
from romwright.pick import pick
from romwright.plain import BadEvent, BadName, NoMember, NotNow, Refused, TooMany, Twice
from romwright.script import Script
from romwright.waves import Course, mend, waves

START = ("start",)


def caller(peer="b", takes=1, leaves=1, times=1):
    """Calls f of a peer, prints what it gets, and asks."""
    body = [("push", 3)] * takes + [("far", peer, "f", takes, leaves)] + [("out",)] * leaves
    return program(body * times + [("ask",), ("out",)])


def server(body=(("dup",), ("out",), ("push", 1), ("add",)), takes=1, leaves=1, main=(("ask",), ("out",))):
    section = code("f", [*body, ("ret",)], [("f", 0)], [("f", takes, leaves)])
    return program(list(main), section)


def looping():
    """Calls f again and again."""
    return program([("far", "b", "f", 0, 0), ("go", "begin")])


def fleet(**programs):
    return Fleet({name: Lone(each) for name, each in programs.items()})


class Made(Checks):
    def test_members(self):
        first, second = Lone(caller()), Lone(server())
        given = {"b": second, "a": first}
        told = Fleet(given)
        given["c"] = first
        self.assertIs(told["a"], first)
        self.assertIs(told["b"], second)
        self.assertEqual((list(told), len(told)), (["a", "b"], 2))
        self.assertEqual(["a" in told, "c" in told], [True, False])
        self.fails(NoMember, "c", told.__getitem__, "c")
        self.fails(NoMember, "c", told.meet, "c", START)

    def test_errors(self):
        lone = Lone(caller())
        self.assertEqual(len(Fleet({f"n{k}": lone for k in range(8)})), 8)
        self.fails(TooMany, 8, Fleet, {f"N{k}": lone for k in range(9)})
        for name in ("A", "", "a b", "a" * 10, 7):
            self.fails(BadName, name, Fleet, {"a": lone, name: lone, "B": lone})

    def test_joined(self):
        first = Fleet({f"a{k}": Lone(caller()) for k in range(4)})
        second = Fleet({f"b{k}": Lone(caller()) for k in range(4)})
        both = second | first
        self.assertEqual(list(both), [f"a{k}" for k in range(4)] + [f"b{k}" for k in range(4)])
        self.assertIs(both["b2"], second["b2"])
        self.assertEqual((len(first), len(second)), (4, 4))
        more = Fleet({"c": Lone(caller())})
        for one, other in ((both, more), (more, both)):
            with self.assertRaises(TooMany) as caught:
                one | other
            self.assertEqual(caught.exception.limit, 8)
        for one, other in ((both, second), (Fleet({"b1": Lone(caller()), "b0": Lone(caller())}), both)):
            with self.assertRaises(Twice) as caught:
                one | other
            self.assertEqual(caught.exception.name, "b0")

    def test_missing(self):
        wants = [("far", "b", "f", 1, 1), ("far", "b", "f", 1, 0), ("far", "b", "g", 1, 1), ("far", "a", "f", 1, 1),
                 ("far", "zz", "f", 1, 1)]
        own = code("own", [("ret",)], [("f", 0)], [("f", 1, 1)])
        told = fleet(b=server(main=[("far", "c", "q", 0, 2)]), a=program([("push", 1), *wants], own))
        self.assertEqual(told.missing(), (("a", "a", "f", 1, 1), ("a", "b", "f", 1, 0), ("a", "b", "g", 1, 1),
                                          ("a", "zz", "f", 1, 1), ("b", "c", "q", 0, 2)))
        self.assertEqual(fleet(a=caller(), b=server()).missing(), ())
        self.assertEqual(Fleet({}).missing(), ())


class Meetings(Checks):
    def test_events(self):
        told = fleet(a=caller(), b=server())
        for event in ((), ("feed",), ("feed", 65536), ("feed", True), ("feed", 1, 2), ("start", 1), ["start"], ("lost",),
                      ("answer", (1,)), ("call", "f", (1,)), "start", None):
            self.fails(BadEvent, event, told.meet, "b", event)
        self.fails(NotNow, ("feed", 1), told.meet, "b", ("feed", 1))
        self.assertEqual(told.meet("b", START), (("b", ("asks",)),))
        self.assertEqual(told.meet("b", ("feed", 7)), (("b", ("print", 7)), ("b", ("done",))))
        self.fails(NotNow, ("feed", 1), told.meet, "b", ("feed", 1))
        self.fails(NoMember, "c", told.meet, "c", ())

    def test_calls_and_back(self):
        told = fleet(a=caller(times=2), b=server())
        told.meet("b", START)
        call = (("a", ("far", "b", "f", (3,), 1)), ("b", ("print", 3)), ("b", ("back", (4,))), ("a", ("print", 4)))
        self.assertEqual(told.meet("a", START), call * 2 + (("a", ("asks",)),))
        # The peer that is done is called, too; its own run is as it was.
        told.meet("b", ("feed", 2))
        self.assertEqual(told.meet("a", START), call * 2 + (("a", ("asks",)),))
        told.meet("b", START)
        self.assertEqual(told.meet("b", ("feed", 9)), (("b", ("print", 9)), ("b", ("done",))))

    def test_who_is_not_called(self):
        lost = (("a", ("far", "b", "f", (3,), 1)), ("a", ("fault", "far")))
        # A peer that is off, is a stranger, or offers other numbers.
        self.assertEqual(fleet(a=caller(), b=server()).meet("a", START), lost)
        self.assertEqual(fleet(a=caller(), c=server()).meet("a", START), lost)
        for peer in (server(takes=2), server(leaves=2), server(takes=0), program([("ask",)])):
            told = fleet(a=caller(), b=peer)
            told.meet("b", START)
            self.assertEqual(told.meet("a", START), lost)
        # A peer that has met a fault.
        told = fleet(a=caller(), b=server(main=[("drop",)]))
        told.meet("b", START)
        self.assertEqual(told.meet("a", START), lost)

    def test_the_member_itself(self):
        own = code("f", [("ret",)], [("f", 0)], [("f", 1, 1)])
        told = fleet(b=program([("push", 3), ("far", "b", "f", 1, 1)], own))
        self.assertEqual(told.meet("b", START), (("b", ("far", "b", "f", (3,), 1)), ("b", ("fault", "far"))))

    def test_a_peer_that_rests_as_far(self):
        told = Fleet({"a": Lone(caller()), "b": Lone(server(main=[("far", "zz", "q", 0, 0)]))})
        told["b"].meet(START)
        self.assertEqual(told["b"].kind, "far")
        self.assertEqual(told.meet("a", START), (("a", ("far", "b", "f", (3,), 1)), ("a", ("fault", "far"))))

    def test_calls_that_do_not_come_back(self):
        for body, last in (([("load",)], ("fault", "astray")), ([("ask",)], ("fault", "now")),
                           ([("drop",)], ("fault", "effect")), ([("go", "f")], ("runs",)),
                           ([("name", "d", 0), ("out",)], ("hangs",))):
            data = cells("data", "data", [4], [("d", 0)])
            section = code("f", [*body, ("ret",)], [("f", 0)], [("f", 0, 1)])
            if last == ("fault", "astray"):
                section = code("f", [("push", 0), *body, ("ret",)], [("f", 0)], [("f", 0, 1)])
            if last == ("fault", "effect"):
                section = code("f", [("ret",)], [("f", 0)], [("f", 0, 1)])
            told = fleet(a=program([("far", "b", "f", 0, 1)]), b=program([("ask",)], section, data))
            told.meet("b", START)
            self.assertEqual(told.meet("a", START), (("a", ("far", "b", "f", (), 1)), ("b", last), ("a", ("fault", "far"))))
            self.assertEqual(told["b"].kind, last[0] if last[0] != "fault" else "fault")

    def test_late_peers(self):
        told = Fleet({"a": Lone(caller()), "b": Lone(server(), limit=3)})
        told.meet("b", START)
        self.assertEqual(told.meet("a", START), (("a", ("far", "b", "f", (3,), 1)), ("b", ("print", 3)), ("b", ("late",)),
                                                 ("a", ("fault", "far"))))

    def test_fifty_and_fifty_one_calls(self):
        back = (("a", ("far", "b", "f", (), 0)), ("b", ("back", ())))
        told = fleet(a=looping(), b=server([], 0, 0))
        told.meet("b", START)
        self.assertEqual(told.meet("a", START), back * 50 + (back[0], ("a", ("fault", "far"))))
        # Fifty are answered, and every event counts anew.
        items = [("far", "b", "f", 0, 0)] * 50 + [("ask",), ("drop",)]
        rest = code("rest", [("far", "b", "f", 0, 0)] * 50 + [("halt",)], [("rest", 0)])
        main = code("main", [*items, ("go", "rest")], [("begin", 0)])
        told = fleet(a=joined([unit("u", main, rest)], "begin"), b=server([], 0, 0))
        told.meet("b", START)
        self.assertEqual(told.meet("a", START), back * 50 + (("a", ("asks",)),))
        self.assertEqual(told.meet("a", ("feed", 1)), back * 50 + (("a", ("done",)),))

    def test_calls_that_nobody_answers_count_once(self):
        told = fleet(a=looping(), b=server([], 0, 0))
        self.assertEqual(told.meet("a", START), (("a", ("far", "b", "f", (), 0)), ("a", ("fault", "far"))))

    def test_two_words_each_way(self):
        told = fleet(a=program([("push", 1), ("push", 2), ("far", "b", "f", 2, 2), ("out",), ("out",)]),
                     b=server([("out",), ("push", 9), ("swap",)], 2, 2))
        told.meet("b", START)
        self.assertEqual(told.meet("a", START), (
            ("a", ("far", "b", "f", (1, 2), 2)), ("b", ("print", 2)), ("b", ("back", (9, 1))), ("a", ("print", 1)),
            ("a", ("print", 9)), ("a", ("done",))))


def some_program(rng, peers):
    """A program by chance that calls peers and is called."""
    body = []
    for _ in range(rng.randint(2, 6)):
        choice = rng.randrange(8)
        if choice < 3:
            takes, leaves = rng.randint(0, 1), rng.randint(0, 1)
            body += [("push", rng.randint(0, 5))] * takes
            body += [("far", rng.choice(peers), rng.choice("fg"), takes, leaves)] + [("out",)] * leaves
        elif choice < 5:
            body += [("ask",), ("name", "k", 0), ("store",)]
        elif choice < 6:
            body += [("name", "k", 0), ("load",), ("out",), ("save",)]
        else:
            body += [("push", rng.randint(0, 5)), ("out",)]
    end = rng.choice([[("halt",)], [("go", "begin")], [("ask",), ("unless", "begin"), ("ret",)]])
    sections = [code("main", body + end, [("begin", 0)]), kept("kept", k=rng.randint(0, 9))]
    for name in "fg":
        takes, leaves = rng.randint(0, 1), rng.randint(0, 1)
        items = [("name", "k", 0), ("load",), ("push", 1), ("add",), ("dup",), ("out",), ("name", "k", 0), ("store",)]
        items += [("drop",)] * takes + [("push", 6)] * leaves + [("ret",)]
        sections.append(code(name, items, [(name, 0)], [(name, takes, leaves)]))
    return [unit("app", *sections)]


class Layouts(Checks):
    def test_boards_tell_what_lone_devices_tell(self):
        for seed in range(30):
            rng = seeded("fleet", seed)
            names = ["a", "b", "c"][:rng.randint(2, 3)]
            units = {name: some_program(rng, names + ["zz"]) for name in names}
            lone, boards = {}, {}
            for name in names:
                script = Script(rng.choice(SCRIPTS))
                laying = rng.choice(list(layings(pick(script, units[name]), rng.choice([2000, 40000]))))
                lone[name], boards[name] = Lone(laying.picked.program), Board(link(laying).setup)
            first, second = Fleet(lone), Fleet(boards)
            self.assertEqual(first.missing(), second.missing())
            for _ in range(15):
                name = rng.choice(names)
                event = rng.choice([START, ("feed", rng.randint(0, 3))] if lone[name].kind == "asks" else [START])
                self.assertEqual(first.meet(name, event), second.meet(name, event))
                self.assertEqual([first[each].steps for each in names], [second[each].steps for each in names])

    def test_all_kinds_of_members(self):
        for seed in range(15):
            rng = seeded("kinds", seed)
            names = ["a", "b", "c", "d"]
            units = {name: some_program(rng, names) for name in names}
            programs = {name: program_of(units[name]) for name in names}
            first = Fleet({name: Lone(programs[name]) for name in names})
            device = Device(image(units["a"], script=1, which=seed), product=7, secret=SECRET, homes=HOMES)
            laying = list(layings(pick(Script(SCRIPTS[0]), units["b"]), 9000))[0]
            life = Life(programs["c"], version=1, level=0)
            second = Fleet({"a": device, "b": Board(link(laying).setup), "c": life, "d": Lone(programs["d"])})
            self.assertEqual(first.missing(), second.missing())
            for _ in range(20):
                name = rng.choice(names)
                event = rng.choice([START, ("feed", rng.randint(0, 3))] if first[name].kind == "asks" else [START])
                self.assertEqual(first.meet(name, event), second.meet(name, event))
            self.assertEqual([first[name].record for name in names], [second[name].record for name in names])

    def test_alike_programs_are_exchanged(self):
        # Over the words 0 to 2 both answer alike; the second one is built otherwise.
        one = server([("push", 2), ("swap",), ("sub",)])
        section = code("f", [("dup",), ("unless", "zero"), ("push", 1), ("same",), ("unless", "two"), ("push", 1), ("ret",),
                             ("drop",), ("push", 2), ("ret",), ("push", 0), ("ret",)],
                       [("f", 0), ("zero", 7), ("two", 10)], [("f", 1, 1)])
        other = program([("ask",), ("out",)], section)
        alphabet = Alphabet((0, 1, 2))
        self.assertIsInstance(alike(one, other, alphabet), Table)
        body = [("ask",), ("far", "b", "f", 1, 1), ("out",), ("go", "begin")]
        first, second = fleet(a=program(body), b=one), fleet(a=program(body), b=other)
        for name, event in [("b", START), ("a", START), ("a", ("feed", 0)), ("a", ("feed", 2)), ("a", ("feed", 1)),
                            ("b", ("feed", 2)), ("a", ("feed", 1))]:
            self.assertEqual(first.meet(name, event), second.meet(name, event))
        self.assertNotEqual(first.meet("a", ("feed", 7)), second.meet("a", ("feed", 7)))


class Waves(Checks):
    """A fleet of devices that is turned along safe waves, [65]."""

    @staticmethod
    def release(name, number):
        """The units of a release: it offers v with its number and those beside it, and wants that with its own."""
        peer = "b" if name == "a" else "a"
        offers = [(f"v{each}", 0, 1, [("push", each)]) for each in range(3) if abs(each - number) < 2]
        body = [("push", number), ("out",), ("confirm",), ("ask",), ("far", peer, f"v{number}", 0, 1)]
        return plain_units([*body, ("out",), ("ask",)], offers)

    def offered(self, units):
        told = program_of(units)
        return (told.offers, told.wants)

    def test_no_want_is_ever_missing(self):
        names = ("a", "b")
        course = Course(names, [[self.offered(self.release(name, number)) for number in range(3)] for name in names])
        self.assertEqual(course.missing((0, 2)), (("a", "b", "v0", 0, 1), ("b", "a", "v2", 0, 1)))
        devices = {name: Device(image(self.release(name, 0)), product=7, secret=SECRET, homes=HOMES) for name in names}
        told = Fleet(devices)
        for name in names:
            told.meet(name, START)
        path = waves(course, (0, 0), (2, 2))
        self.assertEqual(path, ((0, 0), (1, 1), (2, 2)))
        for before, behind in zip(path, path[1:]):
            for number in (1, 0):
                if before[number] != behind[number]:
                    name = names[number]
                    slot = 1 - devices[name].note.sure
                    devices[name].send(image(self.release(name, behind[number]), home=HOMES[slot],
                                             version=1 + behind[number]))
                    self.assertEqual(told.missing(), ())
                    told.meet(name, START)
                    self.assertEqual(told.missing(), ())
                    self.assertEqual(told.meet(name, ("feed", 0))[-1], (name, ("asks",)))
        self.assertEqual([devices[name].offers for name in names], [(("v1", 0, 1), ("v2", 0, 1))] * 2)

    def test_a_device_that_refuses_or_falls_back(self):
        course = Course(("a", "b"), [[((("f", 0, 1),), ()), ((("g", 0, 1),), ())], [((), (("a", "f", 0, 1),)),
                                                                                 ((), (("a", "g", 0, 1),))]])
        units = {"a": [plain_units([("ask",)], [(name, 0, 1, [("push", 5)])]) for name in "fg"],
                 "b": [plain_units([*end, ("ask",), ("far", "a", name, 0, 1)]) for name, end in (("f", ()), ("g", [("drop",)]))]}
        devices = {name: Device(image(units[name][0]), product=7, secret=SECRET, homes=HOMES) for name in "ab"}
        told = Fleet(devices)
        for name in "ab":
            told.meet(name, START)
        devices["a"].send(image(units["a"][1], home=HOMES[1], version=2))
        self.fails(Refused, "home", devices["b"].send, image(units["b"][1], home=HOMES[0], version=2))
        told.meet("a", START)
        self.assertEqual(told.missing(), course.missing((1, 0)))
        self.assertEqual(told.missing(), (("b", "a", "f", 0, 1),))
        self.assertEqual(mend(course, (1, 0)), (0, 0))
        devices["b"].send(image(units["b"][1], home=HOMES[1], version=2))
        self.assertEqual(told.meet("b", START)[-1], ("b", ("fault", "few")))
        self.assertEqual(told.missing(), ())
        told.meet("b", START)
        told.meet("b", START)
        # It has fallen back.
        self.assertEqual((devices["b"].reason, told.missing()), ("tries", course.missing((1, 0))))


if __name__ == "__main__":
    unittest.main()
