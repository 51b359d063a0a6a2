"""Promise [7], and what [1] says of joined."""

import itertools
import unittest

from checks import cells, Checks, code, kept, unit
from romwright.joining import Bound, joined, Program
from romwright.plain import Missing, NoSection, TooMany, Twice, Unlike
from romwright.units import Section

HALT = ("halt",)


def body_of(program, name):
    return program.sections[program[name]].body


class Meanings(Checks):
    def start(self, *items):
        return code("main", [*items, HALT], [("begin", 0)])

    def test_local_goes_first(self):
        first = unit("a", self.start(("name", "x", 1)), cells("d", "data", [1, 2], [("x", 1, "local")]))
        second = unit("b", code("c", [("name", "x", 0), HALT]), cells("d", "data", [1, 2], [("x", 0)]))
        program = joined([first, second], "begin")
        self.assertEqual(body_of(program, "a.main")[0], ("name", 1, 2))
        self.assertEqual(body_of(program, "b.c")[0], ("name", 3, 0))

    def test_global_goes_ahead_of_weak(self):
        first = unit("a", self.start(("name", "x", 65535)), cells("d", "data", [1, 2], [("x", 1, "weak")]))
        second = unit("b", cells("d", "data", [1, 2], [("x", 0)]))
        program = joined([first, second], "begin")
        self.assertEqual(body_of(program, "a.main")[0], ("name", 2, 65535))

    def test_weak_of_the_least_unit(self):
        rows = [unit("c", cells("d", "data", [1, 2], [("x", 1, "weak")]), self.start(("name", "x", 0))),
                unit("b", cells("d", "data", [1, 2], [("x", 0, "weak")])),
                unit("d", cells("d", "data", [1, 2], [("x", 0, "weak")]))]
        for order in itertools.permutations(rows):
            program = joined(order, "begin")
            self.assertEqual([section.name for section in program], ["b.d", "c.d", "c.main", "d.d"])
            self.assertEqual(body_of(program, "c.main")[0], ("name", 0, 0))
            self.assertEqual(program, joined(rows, "begin"))

    def test_local_of_another_unit_means_nothing(self):
        first = unit("a", self.start(("name", "x", 0)))
        second = unit("b", cells("d", "data", [1], [("x", 0, "local")]))
        self.fails(Missing, "x", joined, [first, second], "begin")

    def test_kinds_of_references(self):
        main = code("main", [("go", "m"), ("unless", "m"), ("call", "m"), ("bring", "m"), ("bring", "x"),
                             ("name", "x", 5), ("push", 7), ("far", "p", "x", 0, 1), HALT],
                    [("begin", 1), ("m", 8)])
        table = cells("t", "const", [3, ("at", "x", 65534), ("at", "e", 1), ("at", "e", 65535)], [("e", 3)])
        program = joined([unit("a", main, table, kept("k", x=1, y=2), cells("z", "zero", [0, 0], [("f", 2)]))], "begin")
        self.assertEqual(body_of(program, "a.main"),
                         (("go", 0, 8), ("unless", 0, 8), ("call", 0, 8), ("bring", 0), ("bring", 2), ("name", 2, 5),
                          ("push", 7), ("far", 0), HALT))
        self.assertEqual(body_of(program, "a.t"), (3, ("at", 2, 65534), ("at", 1, 4), ("at", 1, 2)))
        self.assertEqual(body_of(program, "a.z"), (0, 0))
        self.assertEqual(program.entry, (0, 1))

    def test_unlike(self):
        data = cells("d", "data", [1], [("x", 0)])
        for op in ("go", "unless", "call"):
            self.fails(Unlike, "x", joined, [unit("a", self.start((op, "x")), data)], "begin")
            self.fails(Missing, "y", joined, [unit("a", self.start((op, "y")), data)], "begin")
        self.fails(Missing, "y", joined, [unit("a", self.start(("bring", "y")), data)], "begin")
        self.fails(Unlike, "begin", joined, [unit("a", self.start(("name", "begin", 0)), data)], "begin")
        for kind in ("const", "data"):
            for name in ("begin", "y"):
                table = cells("t", kind, [("at", "x", 0), ("at", name, 0)])
                self.fails(Unlike if name == "begin" else Missing, name, joined,
                           [unit("a", self.start(), data, table)], "begin")

    def test_first_reference(self):
        rows = [unit("b", self.start(("go", "x1"), ("go", "x2"))), unit("a", code("c", [("go", "y1"), HALT]),
                                                                        code("d", [("call", "y2"), HALT]))]
        self.fails(Missing, "y1", joined, rows, "nothing")
        self.fails(Missing, "x1", joined, rows[:1], "nothing")


class Entries(Checks):
    def test_entry(self):
        first = unit("a", code("c", [HALT, HALT], [("l", 0, "local"), ("w", 1, "weak"), ("g", 1)]),
                     cells("d", "data", [], [("x", 0)]))
        self.assertEqual(joined([first], "w").entry, (0, 1))
        self.assertEqual(joined([first], "g").entry, (0, 1))
        self.fails(Missing, "l", joined, [first], "l")
        self.fails(Missing, "c", joined, [first], "c")
        self.fails(Unlike, "x", joined, [first], "x")
        second = unit("b", code("c", [HALT], [("w", 0)]))
        self.assertEqual(joined([first, second], "w").entry, (2, 0))
        self.fails(Missing, "w", joined, [], "w")


class Facts(Checks):
    def make(self):
        first = unit("b", code("c", [("far", "q", "z", 1, 1), ("far", "p", "z", 0, 1), HALT], [("f", 2), ("e", 0)],
                               [("f", 1, 0), ("e", 0, 2)], align=4, fixed=True), kept("k", m=1, c=2))
        second = unit("a", code("c", [("far", "p", "z", 0, 1), ("far", "p", "z", 0, 0), HALT], [("g", 1)],
                                [("g", 2, 2)]), kept("k", d=3))
        return [first, second]

    def test_facts(self):
        program = joined(self.make(), "f")
        self.assertEqual([section.name for section in program], ["a.c", "a.k", "b.c", "b.k"])
        self.assertEqual(program.exports, (("e", 0, 2, 2, 0), ("f", 1, 0, 2, 2), ("g", 2, 2, 0, 1)))
        self.assertEqual(program.offers, (("e", 0, 2), ("f", 1, 0), ("g", 2, 2)))
        self.assertEqual(program.wants, (("p", "z", 0, 0), ("p", "z", 0, 1), ("q", "z", 1, 1)))
        self.assertEqual(body_of(program, "b.c")[:2], (("far", 2), ("far", 1)))
        self.assertEqual(program.cells, (("c", 3, 1), ("d", 1, 0), ("m", 3, 0)))
        self.assertEqual(program.parts, (None,) * 4)
        self.assertEqual([name in program for name in ("e", "f", "g", "m", "b.c", None)],
                         [True, True, True, False, False, False])
        self.assertEqual([program["a.c"], program["b.k"], len(program)], [0, 3, 4])
        for name in ("c", "b", "a.d", "f", None, 0):
            self.fails(NoSection, name, lambda at: program[at], name)
        bound = program.sections[2]
        self.assertIsInstance(bound, Bound)
        self.assertEqual([bound.name, bound.kind, bound.align, bound.fixed, bound.size], ["b.c", "code", 4, True, 5])

    def test_equality(self):
        program = joined(self.make(), "f")
        self.assertIsInstance(program, Program)
        self.assertEqual(program, joined(list(reversed(self.make())), "f"))
        self.assertNotEqual(program, joined(self.make(), "e"))
        self.assertNotEqual(program, joined(self.make()[:1], "f"))
        self.assertNotEqual(program, None)

    def test_equality_of_sections(self):
        """Programs that differ in one thing of one section."""
        def make(items=(("push", 1), HALT), kind="data", cell=5, name="d", **more):
            return joined([unit("a", code("c", items, [("begin", 0)], **more), cells(name, kind, [cell]))], "begin")

        first = make()
        self.assertEqual(first, make())
        self.assertEqual(first.sections[0], make().sections[0])
        for other in (make([("push", 2), HALT]), make(cell=6), make(kind="const"), make(name="e"), make(align=2),
                      make(fixed=True)):
            self.assertNotEqual(first, other)
            self.assertNotEqual(first.sections, other.sections)
        self.assertNotEqual(first.sections[0], None)

    def test_hidden_weak_symbols(self):
        """A weak symbol that its name does not mean is hidden; the global one counts."""
        first = unit("a", code("c", [HALT, HALT], [("s", 1, "weak"), ("begin", 0)]))
        second = unit("b", code("c", [HALT], [("s", 0)], [("s", 0, 0)]))
        program = joined([first, second], "begin")
        self.assertEqual(program.exports, (("s", 0, 0, 1, 0),))
        self.assertIn("s", program)


class Limits(Checks):
    def rows(self, count, each):
        rows = [unit(f"u{k}", *[cells(f"s{j}", "zero", []) for j in range(each)]) for k in range(count)]
        return rows + [unit("v", code("c", [HALT], [("begin", 0)]))]

    def test_units(self):
        self.assertEqual(len(joined(self.rows(11, 1), "begin")), 12)
        self.fails(TooMany, 12, joined, self.rows(12, 1), "begin")

    def test_sections(self):
        rows = self.rows(6, 6)
        rows.append(unit("w", *[cells(f"s{j}", "zero", []) for j in range(3)]))
        self.assertEqual(len(joined(rows, "begin")), 40)
        rows.append(unit("x", cells("s", "zero", [])))
        self.fails(TooMany, 40, joined, rows, "begin")
        self.fails(TooMany, 40, joined, rows, "nothing")

    def test_twice(self):
        rows = [unit(name) for name in ("b", "c", "a", "c", "b")]
        self.fails(Twice, "b", joined, rows, "begin")
        self.fails(Twice, "a", joined, [unit("a"), unit("a")], "begin")
        self.fails(TooMany, 12, joined, rows * 3, "begin")
        first = unit("a", cells("s", "zero", [0], [("z", 0), ("m", 0), ("k", 0)]))
        second = unit("b", cells("s", "zero", [0], [("m", 0), ("z", 0), ("k", 0, "weak"), ("b", 0)]))
        self.fails(Twice, "m", joined, [first, second], "begin")
        self.fails(Twice, "b", joined, [first, second, unit("b")], "begin")
        many = self.rows(6, 7) + [first, second]
        self.fails(Twice, "m", joined, many, "begin")

    def test_units_are_not_changed(self):
        rows = self.rows(2, 2)
        joined(rows, "begin")
        self.assertEqual(rows, self.rows(2, 2))
        self.assertEqual(Section("a", "zero", []), cells("a", "zero", []))


if __name__ == "__main__":
    unittest.main()
