"""Promises [8], [12] and what [33], [34] say of a lone device's standing and events."""

import random
import unittest

from checks import cells, Checks, code, kept, overlaid, program, pushes, unit
from romwright.joining import joined
from romwright.named import Lone, met, Run
from romwright.plain import BadEvent, NotNow
from romwright.units import Section, Unit

START = ("start",)
LOST = ("lost",)


def feed(word):
    return ("feed", word)


def told(items, events, *others, record=None, limit=None, **more):
    """The observations of a new device; and the device."""
    device = Lone(program(items, *others, **more), record, limit)
    return [device.meet(event) for event in events], device


def server(items, takes, leaves, *others, main=(("ask",),)):
    """A program that exports `f`, which does these instructions."""
    section = code("f", [*items, ("ret",)], [("f", 0)], [("f", takes, leaves)])
    return program(list(main), section, *others)


class Example(Checks):
    def test_example(self):
        main = Section("main", "code", [("name", "count", 0), ("load",), ("out",), ("halt",)],
                       symbols=[("begin", 0, "global")])
        made = joined([Unit("app", [main, Section("store", "kept", [5], symbols=[("count", 0, "global")])])], "begin")
        self.assertEqual(met(made, [START], {"count": 9}), [(("print", 9), ("done",))])
        self.assertEqual(met(made, (START, START)), [(("print", 5), ("done",))] * 2)
        self.assertEqual(met(made, []), [])


class Events(Checks):
    def test_feeds(self):
        seen, device = told([("ask",), ("ask",), ("add",), ("out",)], [START, feed(3), feed(4)])
        self.assertEqual(seen, [(("asks",),), (("asks",),), (("print", 7), ("done",))])
        self.assertEqual([device.kind, device.steps], ["done", 5])
        self.fails(NotNow, feed(1), device.meet, feed(1))

    def test_answers(self):
        items = pushes(1, 2) + [("far", "p", "s", 2, 2), ("out",), ("out",)]
        seen, device = told(items, [START, ("answer", (8, 9))])
        self.assertEqual(seen, [(("far", "p", "s", (1, 2), 2),), (("print", 9), ("print", 8), ("done",))])
        seen, device = told(items, [START])
        for words in ((), (1,), (1, 2, 3)):
            self.fails(NotNow, ("answer", words), device.meet, ("answer", words))
        self.assertEqual(device.meet(LOST), (("fault", "far"),))
        self.assertEqual(device.kind, "fault")
        for event in (LOST, ("answer", (1, 2)), feed(1)):
            self.fails(NotNow, event, device.meet, event)
        self.assertEqual(device.meet(START), (("far", "p", "s", (1, 2), 2),))

    def test_no_words_are_asked_for(self):
        seen, _ = told([("far", "p", "s", 0, 0), ("push", 1), ("out",)], [START, ("answer", ())])
        self.assertEqual(seen, [(("far", "p", "s", (), 0),), (("print", 1), ("done",))])

    def test_forms(self):
        device = Lone(server([], 1, 1))
        device.meet(START)
        wrong = [(), ("start", 1), ("lost", 1), ("feed",), ("feed", 1, 2), ("answer",), ("answer", 1),
                 ("answer", [1]), ("answer", (1,), 2), ("call",), ("call", "f"), ("call", "f", [1]), ("call", "f", ()),
                 ("call", "f", (1, 2)), ("call", "g", (1,)), ("call", "begin", ()), ("call", None, (1,)),
                 ("call", "f", 1), ("call", "f", (1,), 1), ("calls", "f", (1,)), "start", None, ["start"], ["feed", 1], 5, ("stop",),
                 (None,), (["start"],)]
        for word in (-1, 65536, True, False, None, "1", (1,)):
            wrong += [("feed", word), ("answer", (word,)), ("answer", (1, word)), ("call", "f", (word,))]
        for event in wrong:
            self.fails_same(BadEvent, event, device.meet, event)
        self.assertEqual([device.kind, device.steps], ["asks", 1])
        self.assertEqual(device.meet(("call", "f", (5,))), (("back", (5,)),))
        off = Lone(server([], 1, 1))
        self.fails(BadEvent, ("feed", -1), off.meet, ("feed", -1))

    def test_what_is_met_when(self):
        """Each event at each kind of a device."""
        events = {"start": START, "feed": feed(1), "answer": ("answer", (1,)), "lost": LOST, "call": ("call", "f", ())}
        met_at = {"off": "start", "asks": "start feed call", "far": "start answer lost", "done": "start call",
                  "fault": "start", "hangs": "start", "runs": "start", "late": "start"}
        mains = {"asks": [("ask",)], "far": [("far", "p", "s", 0, 1)], "done": [("halt",)], "fault": [("drop",)],
                 "hangs": pushes(5) + [("load",)], "runs": [("go", "begin")], "late": [("go", "begin")]}
        for kind in met_at:
            made = server([], 0, 0, main=mains.get(kind, ()))
            for name, event in events.items():
                device = Lone(made, None, 3 if kind == "late" else None)
                if kind != "off":
                    device.meet(START)
                self.assertEqual(device.kind, kind)
                before = device.standing()
                if name in met_at[kind].split():
                    device.meet(event)
                else:
                    self.fails(NotNow, event, device.meet, event)
                    self.assertEqual(device.standing(), before)

    def test_hangs_and_faults(self):
        self.assertEqual(told(pushes(5) + [("load",)], [START])[0], [(("hangs",),)])
        seen, device = told(pushes(7) + [("out",), ("out",)], [START, START])
        self.assertEqual(seen, [(("print", 7), ("fault", "few"))] * 2)

    def test_steps_since_the_start(self):
        seen, device = told([("ask",), ("drop",), ("ask",)], [START, feed(1)])
        self.assertEqual(device.steps, 3)
        device.meet(START)
        self.assertEqual(device.steps, 1)


class Records(Checks):
    def counter(self):
        return [("name", "c", 0), ("load",), ("push", 1), ("add",), ("name", "c", 0), ("store",), ("save",)]

    def test_saves(self):
        record = {"c": 4, "other": 7}
        seen, device = told(self.counter(), [START, START], kept("k", d=1, c=9), record=record)
        self.assertEqual(seen, [(("save", (("c", 5), ("d", 1))), ("done",)), (("save", (("c", 6), ("d", 1))), ("done",))])
        self.assertEqual(device.record, {"c": 6, "d": 1, "other": 7})
        self.assertEqual(record, {"c": 4, "other": 7})
        self.assertEqual(device.steps, 8)

    def test_no_cells(self):
        seen, device = told([("save",), ("confirm",)], [START])
        self.assertEqual([seen, device.record, device.confirmed], [[(("save", ()), ("confirm",), ("done",))], {}, True])

    def test_unsaved_words_are_lost(self):
        items = self.counter()[:-1] + [("name", "c", 0), ("load",), ("out",)]
        seen, device = told(items, [START, START], kept("k", c=9))
        self.assertEqual([seen, device.record], [[(("print", 10), ("done",))] * 2, {}])

    def test_full(self):
        names = [f"c{k}" for k in range(24)]
        section = cells("k", "kept", [1] * 24, [(name, place) for place, name in enumerate(names)])
        seen, device = told([("save",)], [START], section)
        self.assertEqual([len(seen[0][0][1]), seen[0][1], len(device.record)], [24, ("done",), 24])
        seen, device = told([("save",)], [START], section, record={"x": 3, "c1": 5})
        self.assertEqual([seen, device.record, device.kind], [[(("fault", "full"),)], {"x": 3, "c1": 5}, "fault"])
        seen, device = told([("save",)], [START], section, record={"c5": 3, "c1": 5})
        self.assertEqual([seen[0][1], device.record["c5"], len(device.record)], [("done",), 3, 24])
        full = {f"x{k}": k for k in range(24)}
        seen, device = told([("save",)], [START], record=full)
        self.assertEqual(seen, [(("save", ()), ("done",))])
        self.assertEqual(device.record, full)

    def test_address_in_a_cell(self):
        seen, device = told([("name", "c", 0), ("name", "c", 0), ("store",), ("save",)], [START], kept("k", c=9))
        self.assertEqual([seen, device.record], [[(("hangs",),)], {}])

    def test_the_record_belongs_to_the_device(self):
        _, device = told([("name", "c", 0), ("load",), ("out",)], [], kept("k", c=9))
        device.record["c"] = 3
        self.assertEqual(device.meet(START), (("print", 3), ("done",)))


class Limits(Checks):
    def loop(self, *items):
        return [*items, ("go", "begin")]

    def test_two_thousand_steps(self):
        seen, device = told(self.loop(), [START])
        self.assertEqual([seen, device.steps, device.kind], [[(("runs",),)], 2000, "runs"])

    def count_down(self, rounds, more):
        """Ends with the step 5 * rounds + more + 1."""
        items = [("push", rounds), ("push", 1), ("sub",), ("dup",), ("unless", "out"), ("go", "on")]
        items += [("push", 0)] * more
        return program(items, symbols=[("on", 1), ("out", 6)])

    def test_edge_of_two_thousand(self):
        for more, kind, steps in ((0, "done", 1996), (4, "done", 2000), (5, "runs", 2000)):
            device = Lone(self.count_down(399, more))
            device.meet(START)
            self.assertEqual([device.kind, device.steps], [kind, steps])

    def test_steps_of_each_event(self):
        first = code("main", [("ask",), ("drop",), ("push", 390), ("push", 1), ("sub",), ("dup",), ("unless", "end"),
                              ("go", "on"), ("go", "begin")], [("begin", 0), ("on", 3), ("end", 8)])
        device = Lone(joined([unit("u", first)], "begin"))
        device.meet(START)
        for _ in range(3):
            self.assertEqual(device.meet(feed(1)), (("asks",),))
        self.assertGreater(device.steps, 4000)

    def test_a_rest_at_the_last_step(self):
        for last, seen in (("ask", (("asks",),)), ("halt", (("done",),)), ("save", (("save", ()), ("runs",))),
                           ("confirm", (("confirm",), ("runs",))), ("drop", (("fault", "few"),)),
                           ("push", (("runs",),))):
            items = [("push", 399), ("push", 1), ("sub",), ("dup",), ("unless", "out"), ("go", "on")]
            items += [("drop",), ("push", 0), ("drop",), ("go", "last")]
            items.append(("push", 1) if last == "push" else (last,))
            device = Lone(program(items, symbols=[("on", 1), ("out", 6), ("last", 10)]))
            self.assertEqual([device.meet(START), device.steps], [seen, 2000])

    def test_late(self):
        items = [("push", 1), ("push", 2), ("drop",), ("drop",)]
        for limit, kind in ((5, "done"), (4, "late"), (1, "late"), (6, "done"), (None, "done")):
            seen, device = told(items, [START], limit=limit)
            self.assertEqual([seen, device.kind, device.limit], [[((kind,),)], kind, limit])
            self.assertEqual(device.steps, min(limit or 5, 5))
        self.fails(NotNow, feed(1), told(items, [START], limit=2)[1].meet, feed(1))

    def test_late_goes_ahead_of_runs(self):
        for limit, kind in ((2000, "late"), (1999, "late"), (2001, "runs")):
            seen, device = told(self.loop(), [START], limit=limit)
            self.assertEqual(seen, [((kind,),)])

    def test_confirm_in_time(self):
        items = [("push", 1), ("confirm",), ("push", 1), ("push", 1)]
        for limit, seen in ((1, (("late",),)), (2, (("confirm",), ("done",))), (3, (("confirm",), ("done",)))):
            self.assertEqual(told(items, [START], limit=limit)[0], [seen])
        seen, device = told([("confirm",), ("go", "begin")], [START], limit=1)
        self.assertEqual([seen[0][:2], seen[0][-1], device.confirmed], [(("confirm",),) * 2, ("runs",), True])

    def test_a_confirm_counts_since_the_start(self):
        items = [("ask",), ("unless", "out"), ("confirm",), ("push", 1), ("push", 1), ("push", 1)]
        device = Lone(program(items, symbols=[("out", 3)]), None, 3)
        device.meet(START)
        self.assertEqual(device.meet(feed(1)), (("confirm",), ("done",)))
        self.assertIs(device.confirmed, True)
        device.meet(START)
        self.assertIs(device.confirmed, False)
        self.assertEqual(device.meet(feed(0)), (("late",),))
        self.assertEqual(device.steps, 3)

    def test_saves_at_the_limit(self):
        seen, device = told([("push", 1), ("save",)], [START], kept("k", c=1), limit=2)
        self.assertEqual([seen, device.record], [[(("save", (("c", 1),)), ("late",))], {"c": 1}])

    def test_rests_at_the_limit(self):
        seen, device = told([("push", 1), ("ask",)], [START, feed(1)], limit=2)
        self.assertEqual([seen, device.steps], [[(("asks",),), (("late",),)], 2])
        seen, device = told([("push", 1), ("far", "p", "s", 0, 0)], [START, ("answer", ())], limit=2)
        self.assertEqual(seen[1], (("late",),))
        seen, device = told([("push", 1), ("far", "p", "s", 0, 0)], [START, LOST], limit=2)
        self.assertEqual(seen[1], (("fault", "far"),))
        made = server([], 0, 0, main=[("push", 1)])
        device = Lone(made, None, 2)
        self.assertEqual([device.meet(START), device.meet(("call", "f", ()))], [(("done",),), (("late",),)])

    def test_steps_of_calls_count(self):
        made = server([("push", 1), ("drop",)], 0, 0)
        device = Lone(made, None, 7)
        self.assertEqual(device.meet(START), (("asks",),))
        for steps in (4, 7):
            self.assertEqual([device.meet(("call", "f", ())), device.steps], [(("back", ()),), steps])
        self.assertEqual(device.meet(("call", "f", ())), (("late",),))


class Calls(Checks):
    def test_back(self):
        device = Lone(server([("sub",), ("dup",)], 2, 2))
        device.meet(START)
        self.assertEqual(device.meet(("call", "f", (9, 5))), (("back", (4, 4)),))
        self.assertEqual([device.kind, device.steps], ["asks", 4])
        self.assertEqual(device.meet(("call", "f", (1, 3))), (("back", (65534, 65534)),))

    def test_the_run_is_as_it_was(self):
        main = [("push", 7), ("ask",), ("out",), ("out",), ("name", "x", 0), ("load",), ("out",)]
        made = server([("name", "x", 0), ("store",), ("push", 3), ("out",)], 1, 0, cells("d", "data", [1], [("x", 0)]),
                      main=main)
        device = Lone(made)
        device.meet(START)
        self.assertEqual(device.meet(("call", "f", (6,))), (("print", 3), ("back", ())))
        self.assertEqual(device.meet(feed(8)), (("print", 8), ("print", 7), ("print", 6), ("done",)))
        self.assertEqual(device.meet(("call", "f", (5,))), (("print", 3), ("back", ())))

    def test_now(self):
        for item in (("ask",), ("far", "p", "s", 0, 0), ("save",), ("confirm",), ("halt",)):
            device = Lone(server([item], 0, 0))
            device.meet(START)
            self.assertEqual(device.meet(("call", "f", ())), (("fault", "now"),))
            self.assertEqual([device.kind, device.confirmed], ["fault", False])
            self.fails(NotNow, feed(1), device.meet, feed(1))
        # few and many go ahead, hangs of what the table tells do not.
        full = pushes(*[1] * 64)
        for items, reason in ((full + [("ask",)], "many"), ([("far", "p", "s", 1, 0)], "few"),
                              (full + [("far", "p", "s", 0, 1)], "many"), (full + [("far", "p", "s", 1, 1)], "now")):
            device = Lone(server(items, 0, 0))
            device.meet(START)
            self.assertEqual(device.meet(("call", "f", ())), (("fault", reason),))
        device = Lone(server([("name", "x", 0), ("far", "p", "s", 1, 0)], 0, 0, cells("d", "data", [1], [("x", 0)])))
        device.meet(START)
        self.assertEqual(device.meet(("call", "f", ())), (("fault", "now"),))

    def test_effect(self):
        for items, leaves in (([], 0), (pushes(1), 1), (pushes(1, 2), 2)):
            for other in (0, 1, 2):
                device = Lone(server(items, 0, other))
                device.meet(START)
                seen = device.meet(("call", "f", ()))
                self.assertEqual(seen[0][0], "back" if other == leaves else "fault")
                self.assertEqual(device.kind, "asks" if other == leaves else "fault")
        device = Lone(server(pushes(1), 0, 0))
        device.meet(START)
        self.assertEqual(device.meet(("call", "f", ())), (("fault", "effect"),))

    def test_addresses(self):
        data = cells("d", "data", [1], [("x", 0)])
        for items, leaves, seen in (([("name", "x", 0)], 1, ("hangs",)), ([("name", "x", 0)], 2, ("fault", "effect")),
                                    ([("push", 1), ("name", "x", 0), ("swap",)], 2, ("hangs",)),
                                    ([("name", "x", 0), ("drop",)], 0, ("back", ()))):
            device = Lone(server(items, 0, leaves, data))
            device.meet(START)
            self.assertEqual(device.meet(("call", "f", ())), (seen,))

    def test_faults_hangs_and_runs(self):
        for items, seen in (([("drop",)], ("fault", "few")), (pushes(5) + [("load",)], ("hangs",)),
                            ([("go", "f")], ("runs",))):
            device = Lone(server(items, 0, 0))
            device.meet(START)
            self.assertEqual([device.meet(("call", "f", ())), device.kind], [(seen,), seen[0]])
            self.fails(NotNow, ("call", "f", ()), device.meet, ("call", "f", ()))
            self.assertEqual(device.meet(START), (("asks",),))

    def test_no_returns(self):
        main = [("call", "g"), ("halt",), ("ask",), ("ret",)]
        section = code("f", [("ret",)], [("f", 0)], [("f", 0, 0)])
        device = Lone(program(main, section, symbols=[("g", 2)]))
        device.meet(START)
        self.assertEqual(device.run.returns, ((0, 1),))
        self.assertEqual(device.meet(("call", "f", ())), (("back", ()),))
        self.assertEqual([device.meet(feed(1)), device.kind], [(("done",),), "done"])

    def test_presence(self):
        made = server([("bring", "x")], 0, 0, cells("d", "data", [4], [("x", 0)]),
                      main=[("ask",), ("name", "x", 0), ("load",), ("out",)])
        device = Lone(overlaid(made, {"u.d": (0, 0)}))
        device.meet(START)
        self.assertEqual(device.meet(("call", "f", ())), (("back", ()),))
        self.assertEqual(device.meet(feed(1)), (("print", 4), ("done",)))
        device.meet(START)
        self.assertEqual(device.meet(feed(1)), (("hangs",),))


class Prints(Checks):
    def test_printed_at(self):
        made = server([("push", 1), ("out",)], 0, 0, main=[("ask",), ("out",), ("push", 1), ("out",), ("ask",)])
        device = Lone(made)
        self.assertEqual(device.printed_at, ())
        device.meet(START)
        self.assertEqual(device.printed_at, ())
        device.meet(feed(1))
        self.assertEqual(device.printed_at, (("u.main", 1), ("u.main", 3)))
        self.fails(NotNow, LOST, device.meet, LOST)
        self.assertEqual(device.printed_at, (("u.main", 1), ("u.main", 3)))
        device.meet(("call", "f", ()))
        self.assertEqual(device.printed_at, (("u.f", 1),))
        device.meet(("call", "f", ()))
        self.assertEqual(device.printed_at, (("u.f", 1),))
        device.meet(START)
        self.assertEqual(device.printed_at, ())


class Attributes(Checks):
    def test_attributes(self):
        made = server([("far", "q", "z", 0, 0)], 1, 0)
        device = Lone(made, {"c": 1}, 50)
        self.assertIs(device.program, made)
        self.assertEqual([device.record, device.offers, device.wants, device.limit, device.kind, device.confirmed,
                          device.steps], [{"c": 1}, (("f", 1, 0),), (("q", "z", 0, 0),), 50, "off", False, 0])


class Standings(Checks):
    def test_kinds(self):
        off = Lone(server([], 0, 0))
        self.assertEqual(off.standing(), Lone(server([], 1, 0)).standing())
        few = told([("out",)], [START])[1].standing()
        self.assertEqual(few, told([("drop",)], [START])[1].standing())
        self.assertNotEqual(few, told(pushes(0) + [("load",)], [START])[1].standing())
        self.assertNotEqual(few, off.standing())
        self.assertIsInstance(few, tuple)

    def test_what_counts(self):
        data = cells("d", "data", [1], [("x", 0)])
        made = program([("ask",), ("name", "x", 0), ("store",), ("ask",)], data)
        rows = []
        for words in ((3,), (4,), (3,)):
            device = Lone(made)
            device.meet(START)
            for word in words:
                device.meet(feed(word))
            rows.append(device.standing())
        self.assertEqual(rows[0], rows[2])
        self.assertNotEqual(rows[0], rows[1])

    def test_steps_do_not_count(self):
        made = program([("ask",), ("unless", "begin"), ("push", 1), ("drop",), ("go", "begin")])
        device = Lone(made)
        device.meet(START)
        first = device.standing()
        device.meet(feed(0))
        self.assertEqual(device.standing(), first)
        device.meet(feed(1))
        self.assertEqual(device.standing(), first)

    def test_words_that_were_sent_do_not_count(self):
        made = program([("ask",), ("far", "p", "s", 1, 0)])
        rows = []
        for word in (1, 2):
            device = Lone(made)
            device.meet(START)
            device.meet(feed(word))
            rows.append(device.standing())
        self.assertEqual(rows[0], rows[1])

    def test_parts_that_are_not_there(self):
        items = [("bring", "x"), ("ask",), ("name", "x", 0), ("store",), ("bring", "y"), ("ask",)]
        made = overlaid(program(items, cells("d", "data", [1], [("x", 0)]), cells("e", "data", [1], [("y", 0)])),
                        {"u.d": (0, 0), "u.e": (0, 1)})
        rows = []
        for word in (1, 2):
            device = Lone(made)
            device.meet(START)
            between = device.standing()
            device.meet(feed(word))
            rows.append(device.standing())
        self.assertEqual(rows[0], rows[1])
        self.assertNotEqual(rows[0], between)
        again = Lone.from_standing(made, {}, rows[0])
        self.assertEqual(again.standing(), rows[0])

    def test_goes_on_as_it_does(self):
        main = [("push", 3), ("call", "g"), ("out",), ("halt",), ("far", "p", "s", 0, 1), ("ask",), ("add",),
                ("name", "c", 0), ("load",), ("add",), ("name", "c", 0), ("store",), ("save",), ("ask",), ("name", "t", 0),
                ("swap",), ("drop",), ("drop",), ("ret",)]
        section = code("f", [("name", "c", 0), ("load",), ("add",), ("ret",)], [("f", 0)], [("f", 1, 1)])
        made = program(main, section, kept("k", c=2), cells("t", "const", [1], [("t", 0)]), symbols=[("g", 4)])
        chosen = random.Random(5)
        for _ in range(60):
            device = Lone(made, {"c": chosen.randrange(3)})
            device.meet(START)
            for _ in range(12):
                event = chosen.choice(list(device.events((1, 5))))
                other = Lone.from_standing(made, device.record, device.standing())
                self.assertEqual([other.kind, other.steps, other.standing(), other.record, other.confirmed],
                                 [device.kind, 0, device.standing(), device.record, False])
                self.assertEqual(list(other.events((1, 5))), list(device.events((1, 5))))
                self.assertIsNot(other.record, device.record)
                steps = device.steps if event != START else 0
                self.assertEqual(other.meet(event), device.meet(event))
                self.assertEqual([other.standing(), other.record, other.steps],
                                 [device.standing(), device.record, device.steps - steps])
                self.assertEqual(other.printed_at, device.printed_at)

    def test_cells_and_parts_are_told(self):
        items = [("bring", "x"), ("ask",), ("name", "x", 1), ("store",), ("ask",), ("name", "x", 1), ("load",), ("add",),
                 ("out",), ("name", "y", 0), ("load",)]
        made = overlaid(program(items, cells("d", "data", [1, 2], [("x", 0)]), cells("e", "data", [1], [("y", 0)])),
                        {"u.d": (0, 3), "u.e": (0, 4)})
        device = Lone(made)
        device.meet(START)
        device.meet(feed(8))
        other = Lone.from_standing(made, {}, device.standing())
        self.assertEqual(other.meet(feed(5)), (("print", 13), ("hangs",)))

    def test_each_kind(self):
        made = server([("out",)], 1, 0)
        for items, limit in (([("drop",)], None), (pushes(5) + [("load",)], None), ([("go", "begin")], None),
                             ([("go", "begin")], 5), ([], None)):
            device = Lone(program(items), None, limit)
            for _ in range(2):
                other = Lone.from_standing(device.program, {"z": 1}, device.standing())
                self.assertEqual([other.kind, other.standing(), other.record],
                                 [device.kind, device.standing(), {"z": 1}])
                self.assertEqual(list(other.events((1,))), [START])
                device.meet(START)
                if device.kind == "done":
                    break
        self.assertEqual(Lone.from_standing(made, {}, Lone(made).standing()).kind, "off")


class EventRows(Checks):
    def test_events(self):
        section = code("f", [("add",), ("ret",)], [("f", 0), ("e", 0)], [("f", 2, 1), ("e", 0, 2)])
        made = program([("ask",), ("far", "p", "s", 1, 2), ("drop",)], section)
        device = Lone(made)
        self.assertEqual(list(device.events((4, 2))), [START])
        device.meet(START)
        calls = [("call", "e", ()), ("call", "f", (4, 4)), ("call", "f", (4, 2)), ("call", "f", (2, 4)),
                 ("call", "f", (2, 2))]
        self.assertEqual(list(device.events((4, 2))), [START, feed(4), feed(2)] + calls)
        device.meet(feed(4))
        answers = [("answer", (4, 4)), ("answer", (4, 2)), ("answer", (2, 4)), ("answer", (2, 2))]
        self.assertEqual(list(device.events((4, 2))), [START] + answers + [LOST])
        self.assertEqual(list(device.events(())), [START, LOST])
        device.meet(answers[0])
        self.assertEqual([device.kind, list(device.events((4, 2)))], ["done", [START] + calls])
        device.meet(calls[1])
        self.assertEqual(list(device.events((1,))), [START, calls[0], ("call", "f", (1, 1))])
        device.meet(calls[0])
        self.assertEqual([device.kind, list(device.events((4, 2)))], ["fault", [START]])

    def test_an_alphabet_object(self):
        class Words:
            def __iter__(self):
                return iter((7, 3))

        device = Lone(program([("ask",)]))
        device.meet(START)
        self.assertEqual(list(device.events(Words())), [START, feed(7), feed(3)])


class Runs(Checks):
    def test_a_run_has_a_record(self):
        run = Run(program([("name", "c", 0), ("load",), ("out",)], kept("k", c=1)), {"c": 8})
        run.go(9)
        self.assertEqual(run.prints, [8])


if __name__ == "__main__":
    unittest.main()
