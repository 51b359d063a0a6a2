"""What programs use, and whether they are sure to confirm: [36] and [37]."""

import random
import unittest

from making import made_picked
from checks import Checks, cells, code, kept, program, pushes, unit

from romwright.alike import alike, Alphabet, judge_table, Table
from romwright.joining import joined
from romwright.named import Lone
from romwright.plain import NoSection, TooMany
from romwright.reach import Confirm, confirms, emptied, Never, reach

HALT = ("halt",)
BITS = Alphabet((0, 1))
START = ("start",)


def counting(many, *behind):
    """A program that stands in so many different ways, one behind the other, each asking; then what is told."""
    body = [("ask",), ("drop",), ("name", "d", 0), ("load",), ("push", 1), ("add",), ("dup",), ("name", "d", 0),
            ("store",), ("push", many), ("same",), ("unless", "begin"), *behind]
    return program(body, cells("d", "data", [0], [("d", 0)]))


class Reach(Checks):
    def rows(self, *sections, words=(0, 1)):
        return reach(joined([unit("u", *sections)], "begin"), Alphabet(words))

    def test_instructions(self):
        told = self.rows(code("main", [("ask",), ("unless", "a"), ("go", "b")], [("begin", 0)]),
                         code("dead", [HALT], [("c", 0)]), code("one", [("go", "c")], [("a", 0)]),
                         code("two", [HALT], [("b", 0)]))
        self.assertEqual(told, {"u.main": (START,), "u.dead": (START, ("feed", 0)), "u.one": (START, ("feed", 0)),
                                "u.two": (START, ("feed", 1))})
        self.assertEqual(list(told), ["u.main", "u.dead", "u.one", "u.two"])

    def test_alphabets_and_their_order(self):
        sections = [code("main", [("ask",), ("push", 2), ("less",), ("unless", "a"), ("go", "b")], [("begin", 0)]),
                    code("big", [HALT], [("a", 0)]), code("small", [HALT], [("b", 0)])]
        self.assertEqual(list(self.rows(*sections)), ["u.main", "u.small"])
        self.assertEqual(list(self.rows(*sections, words=(2,))), ["u.main", "u.big"])
        self.assertEqual(self.rows(*sections, words=(1, 0))["u.small"], (START, ("feed", 1)))

    def test_addresses(self):
        told = self.rows(code("main", [("name", "d", 9), ("drop",), ("name", "p", 0), ("load",), ("drop",), HALT],
                              [("begin", 0)]),
                         cells("d", "data", [], [("d", 0)]), cells("p", "const", [("at", "q", 0)], [("p", 0)]),
                         cells("q", "zero", [0], [("q", 0)]), cells("r", "const", [("at", "p", 0)], [("r", 0)]))
        self.assertEqual(list(told), ["u.main", "u.d", "u.p", "u.q"])

    def test_steps_that_fault_or_hang(self):
        told = self.rows(code("main", [("ask",), ("unless", "f"), ("go", "h")], [("begin", 0)]),
                         code("few", [("drop",), HALT], [("f", 0)]),
                         code("hang", [("push", 5), ("load",), HALT], [("h", 0)]))
        self.assertEqual(told, {"u.main": (START,), "u.few": (START, ("feed", 0)), "u.hang": (START, ("feed", 1))})

    def test_parts_that_are_not_present(self):
        # An instruction of a part that is not present is done by a step that hangs.
        for seed in range(40):
            _, _, _, picked = made_picked(seed)
            try:
                told = reach(picked.program, Alphabet((7,)))
            except TooMany:
                continue
            for name, row in told.items():
                if row == (START,):
                    self.assertIn(name, self.used_by(picked.program, row))

    def used_by(self, made, row):
        device = Lone(made)
        for event in row:
            device.meet(event)
        return {made.sections[number].name for number in device.run.memory.used}

    def test_calls(self):
        body = [("ask",), ("drop",), ("go", "begin"), ("call", "sub"), ("name", "d", 0), ("load",), ("ret",)]
        told = self.rows(code("main", body, [("begin", 0), ("x", 3)], [("x", 0, 1)]), code("sub", [("ret",)], [("sub", 0)]),
                         cells("d", "data", [3], [("d", 0)]))
        row = (START, ("call", "x", ()))
        self.assertEqual(told, {"u.main": (START,), "u.sub": row, "u.d": row})

    def test_answers_and_lost_ones(self):
        told = self.rows(code("main", [("far", "p", "f", 0, 1), ("unless", "a"), HALT], [("begin", 0)]),
                         code("a", [HALT], [("a", 0)]), words=(1, 0))
        self.assertEqual(told["u.a"], (START, ("answer", (0,))))

    def test_kept_ones(self):
        told = self.rows(code("dead", [HALT]), kept("k", a=1), code("main", [("name", "a", 0), ("drop",), HALT], [("begin", 0)]),
                         kept("none"))
        self.assertEqual(told, {"u.k": (), "u.main": (START,), "u.none": ()})
        self.assertEqual(list(told), ["u.k", "u.main", "u.none"])

    def test_behind_a_save(self):
        body = [("name", "k", 0), ("load",), ("push", 2), ("same",), ("unless", "on"), ("go", "late"),
                ("name", "k", 0), ("load",), ("push", 1), ("add",), ("name", "k", 0), ("store",), ("save",), HALT]
        told = self.rows(code("main", body, [("begin", 0), ("on", 6)]), code("late", [HALT], [("late", 0)]), kept("s", k=0))
        self.assertEqual(told["u.late"], (START,) * 3)

    def test_three_hundred_standings(self):
        one = Alphabet((0,))
        # That of the device that is off counts.
        self.assertEqual(len(reach(counting(298), one)), 2)
        self.fails(TooMany, 300, reach, counting(299), one)
        self.fails(TooMany, 300, reach, counting(65535), one)

    def test_least_rows_by_chance(self):
        for seed in range(25):
            rng = random.Random(seed)
            sections = []
            for number in range(5):
                items = []
                for _ in range(rng.randint(1, 3)):
                    items.extend(rng.choice([[("ask",), ("unless", f"f{rng.randrange(5)}")], [("call", f"f{rng.randrange(5)}")],
                                             [("ask",), ("name", "k", 0), ("store",)], [("name", "d", 0), ("drop",)],
                                             [("name", "k", 0), ("load",), ("unless", f"f{rng.randrange(5)}")], [("save",)]]))
                exports = [(f"f{number}", 0, 0)] if rng.random() < 0.3 else []
                sections.append(code(f"s{number}", items + [rng.choice([("ret",), HALT])],
                                     [(f"f{number}", 0)] + ([("begin", 0)] if number == 0 else []), exports))
            made = joined([unit("u", *sections, cells("d", "data", [1], [("d", 0)]), kept("s", k=1))], "begin")
            try:
                told = reach(made, BITS)
            except TooMany:
                continue
            self.assertEqual({name: row for name, row in told.items() if len(row) <= 3}, self.by_hand(made, 3))
            dead = [section.name for section in made if section.name not in told]
            again = joined(emptied([unit("u", *sections, cells("d", "data", [1], [("d", 0)]), kept("s", k=1))], dead), "begin")
            table = alike(made, again, BITS)
            if isinstance(table, Table):
                self.assertIsNone(judge_table(made, again, table))
            else:
                self.assertEqual(table.first, table.second)
                self.assertEqual(table.first[-1], ("hangs",))

    def by_hand(self, made, length):
        """The least rows up to this length, from all rows."""
        found = {section.name: () for section in made if section.kind == "kept"}
        level = [()]
        for _ in range(length):
            longer = []
            for row in level:
                device = self.stands(made, row)
                for event in device.events((0, 1)):
                    for name in sorted(self.used_last(made, row + (event,))):
                        found.setdefault(name, row + (event,))
                    longer.append(row + (event,))
            level = longer
        return found

    def stands(self, made, row):
        device = Lone(made)
        for event in row:
            device.meet(event)
        return device

    def used_last(self, made, row):
        device = self.stands(made, row[:-1])
        if device.run is not None:
            device.run.memory.used.clear()
        device.meet(row[-1])
        return [made.sections[number].name for number in device.run.memory.used]


class Emptied(Checks):
    def test_sections(self):
        first = code("c", [("push", 1), ("out",), ("ret",)], [("x", 1), ("y", 2, "weak"), ("z", 0, "local")], [("x", 1, 2)],
                     align=4, fixed=True)
        data = cells("d", "data", [1, ("at", "d", 0)], [("d", 2), ("e", 0, "local")], align=8)
        zero = cells("z", "zero", [0], [("f", 1)])
        rows = [unit("b", first, data), unit("a", zero, cells("k", "const", [4])), unit("none")]
        told = emptied(rows, ["b.c", "a.z", "b.d"])
        self.assertEqual(told, [
            unit("b", code("c", [HALT], [("x", 0), ("y", 0, "weak"), ("z", 0, "local")], [("x", 1, 2)], align=4, fixed=True),
                 cells("d", "data", [], [("d", 0), ("e", 0, "local")], align=8)),
            unit("a", cells("z", "zero", [], [("f", 0)]), cells("k", "const", [4])), unit("none")])
        self.assertEqual(rows[0]["c"], first)
        self.assertEqual(emptied(rows, []), rows)
        self.assertEqual(emptied([unit("a", kept("k"))], ("a.k",)), [unit("a", kept("k"))])

    def test_errors(self):
        rows = [unit("b", code("c", [HALT]))]
        self.fails(NoSection, "b.d", emptied, rows, ["b.c", "b.d", "a.c"])
        self.fails(NoSection, "c", emptied, rows, ["c", "b.d"])


class Confirms(Checks):
    def sure(self, made, steps, row, alphabet=BITS, record=None):
        told = confirms(made, alphabet, record)
        self.assertIsInstance(told, Confirm)
        self.assertEqual((told.steps, told.row), (steps, row))

    def never(self, made, row, ring=(), alphabet=BITS, record=None):
        told = confirms(made, alphabet, record)
        self.assertIsInstance(told, Never)
        self.assertEqual((told.row, told.ring), (row, ring))

    def test_at_the_start(self):
        self.sure(program([("confirm",)]), 1, (START,))
        self.sure(program([*pushes(1, 2), ("confirm",), ("confirm",), ("ask",)]), 3, (START,))
        # What comes behind it does not count.
        self.sure(program([("confirm",), ("drop",)]), 1, (START,))
        self.sure(program([("confirm",), ("go", "begin")]), 1, (START,))

    def test_most_steps(self):
        body = [("ask",), ("unless", "far2"), ("confirm",), HALT, ("push", 1), ("drop",), ("ask",), ("drop",), ("confirm",)]
        made = program(body, symbols=[("far2", 4)])
        self.sure(made, 1 + 1 + 2 + 1 + 2, (START, ("feed", 0), ("feed", 0)))
        self.sure(made, 7, (START, ("feed", 0), ("feed", 1)), Alphabet((1, 0)))
        self.sure(made, 3, (START, ("feed", 1)), Alphabet((1,)))
        # Shorter rows go ahead among those with the most steps.
        even = program([("ask",), ("unless", "other"), *[("push", 0), ("drop",)] * 3, ("confirm",), HALT,
                        ("push", 0), ("drop",), ("ask",), ("drop",), ("push", 1), ("drop",), ("confirm",)],
                       symbols=[("other", 10)])
        self.sure(even, 9, (START, ("feed", 1)))
        # Two feeds behind the first branch, one behind the other one, with as many steps.
        tied = program([("ask",), ("unless", "other"), *[("push", 0), ("drop",)], ("ask",), ("drop",), ("confirm",), HALT,
                        ("ask",), ("drop",), ("ask",), ("drop",), ("confirm",)], symbols=[("other", 8)])
        self.sure(tied, 7, (START, ("feed", 1), ("feed", 0)))
        self.sure(tied, 7, (START, ("feed", 1), ("feed", 1)), Alphabet((1, 0)))

    def test_answers(self):
        made = program([("far", "p", "f", 0, 2), ("drop",), ("unless", "end"), ("push", 3), ("drop",), ("confirm",)],
                       symbols=[("end", 5)])
        self.sure(made, 6, (START, ("answer", (1, 0))))
        self.sure(program([("far", "p", "f", 0, 0), ("confirm",)]), 2, (START, ("answer", ())))

    def test_ends(self):
        self.never(program([]), (START,))
        self.never(program([("drop",), ("confirm",)]), (START,))
        self.never(program([("go", "begin")]), (START,))
        self.never(program([("push", 5), ("load",), ("confirm",)]), (START,))
        body = [("ask",), ("unless", "end"), ("ask",), ("unless", "end"), ("confirm",), HALT]
        self.never(program(body, symbols=[("end", 5)]), (START, ("feed", 0)))
        self.never(program(body, symbols=[("end", 5)]), (START, ("feed", 0)), (), Alphabet((1, 0)))
        self.sure(program(body, symbols=[("end", 5)]), 5, (START, ("feed", 1), ("feed", 1)), Alphabet((1,)))
        # A lost answer, a call and a start are no such events.
        made = program([("far", "p", "f", 0, 1), ("confirm",), HALT, ("drop",), ("ret",)], symbols=[("x", 3)],
                       exports=[("x", 0, 0)])
        self.sure(made, 2, (START, ("answer", (0,))))

    def test_rings(self):
        self.never(program([("ask",), ("unless", "begin"), ("confirm",)]), (START,), (("feed", 0),))
        # An end goes ahead of a ring, also if its row is longer.
        body = [("ask",), ("unless", "begin"), ("ask",), ("drop",)]
        self.never(program(body), (START, ("feed", 1), ("feed", 0)))
        # The standing behind the first feed can come again, the first one cannot.
        body = [("ask",), ("drop",), ("ask",), ("unless", "back"), ("confirm",), HALT, ("ask",), ("drop",), ("go", "again")]
        self.never(program(body, symbols=[("again", 2), ("back", 6)]), (START, ("feed", 0)), (("feed", 0), ("feed", 0)))
        self.never(program(body, symbols=[("again", 2), ("back", 6)]), (START, ("feed", 1)), (("feed", 0), ("feed", 1)),
                   Alphabet((1, 0)))

    def test_records(self):
        body = [("name", "k", 0), ("load",), ("unless", "end"), ("confirm",), HALT]
        made = program(body, kept("s", k=0), symbols=[("end", 4)])
        self.never(made, (START,))
        self.sure(made, 4, (START,), record={"k": 1})
        # A save changes the record, so the standing is another one.
        body = [("ask",), ("drop",), ("name", "k", 0), ("load",), ("push", 1), ("add",), ("name", "k", 0), ("store",), ("save",),
                ("name", "k", 0), ("load",), ("push", 2), ("same",), ("unless", "begin"), ("confirm",)]
        self.sure(program(body, kept("s", k=0)), 29, (START, ("feed", 0), ("feed", 0)))
        record = {"k": 0}
        confirms(program(body, kept("s", k=0)), BITS, record)
        self.assertEqual(record, {"k": 0})

    def test_three_hundred_standings(self):
        one = Alphabet((0,))
        told = confirms(counting(300, ("confirm",)), one)
        self.assertEqual((len(told.row), told.row[1:]), (301, (("feed", 0),) * 300))
        self.fails(TooMany, 300, confirms, counting(301, ("confirm",)), one)
        self.fails(TooMany, 300, confirms, counting(301), one)
        self.assertEqual(confirms(counting(300), one).row, (START,) + (("feed", 0),) * 300)
        # An end that comes ahead of the 301st one.
        self.never(program([("ask",), ("unless", "begin"), HALT]), (START, ("feed", 1)))

    def test_limits(self):
        """[62], for lone devices: with the limit n it is never late, with a lesser one it is in the told row."""
        body = [("ask",), ("unless", "far2"), ("confirm",), HALT, ("push", 1), ("drop",), ("ask",), ("drop",), ("confirm",)]
        made = program(body, symbols=[("far2", 4)])
        told = confirms(made, BITS)
        for limit in range(1, told.steps):
            device = Lone(made, limit=limit)
            seen = [device.meet(event) for event in told.row if device.kind != "late"]
            self.assertEqual(seen[-1][-1], ("late",))
        for first in (0, 1):
            device = Lone(made, limit=told.steps)
            device.meet(START)
            device.meet(("feed", first))
            if device.kind == "asks":
                device.meet(("feed", 1))
            self.assertEqual((device.kind, device.confirmed), ("done", True))


if __name__ == "__main__":
    unittest.main()
