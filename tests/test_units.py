"""Promises [3] to [5], and what [1] says of Section and Unit."""

import unittest

from checks import cells, Checks, code, unit
from romwright.plain import BadAlign, BadCell, BadExport, BadFixed, BadItem, BadKind, BadName, BadSymbol, NoSection
from romwright.plain import TooMany, Twice
from romwright.units import KINDS, OPS, references, Section, section_of, Unit

HALT = ("halt",)
SIMPLE = "dup drop swap over add sub mul less same load store ret out ask save confirm halt".split()
WRONG_WORDS = (-1, 65536, True, False, None, "1", (1,), [1])
WRONG_NAMES = ("", "abcdefghij", "1a", "A", 5, None, True, ("a",), ["a"])
WRONG_COUNTS = (-1, 3, True, False, None, "1", (1,))


def places(count):
    """Symbols of a kept section with so many items."""
    return [(f"k{place}", place, "global") for place in range(count)]


class Kinds(Checks):
    def test_constants(self):
        self.assertEqual(KINDS, ("code", "const", "data", "zero", "kept"))
        self.assertEqual(sorted(OPS), sorted(SIMPLE + ["push", "name", "go", "unless", "call", "bring"]))
        effects = {"push": (0, 1), "name": (0, 1), "dup": (1, 2), "drop": (1, 0), "swap": (2, 2), "over": (2, 3),
                   "load": (1, 1), "store": (2, 0), "out": (1, 0), "ask": (0, 1), "unless": (1, 0)}
        for op in ("add", "sub", "mul", "less", "same"):
            effects[op] = (2, 1)
        for op in OPS:
            self.assertEqual(OPS[op], effects.get(op, (0, 0)))

    def test_no_items(self):
        self.fails(BadItem, 0, Section, "a", "code", [])
        for kind in KINDS[1:]:
            section = Section("a", kind, [])
            self.assertEqual([len(section), section.body, section.size], [0, (), 0])

    def test_most_items(self):
        self.assertEqual(len(Section("a", "code", [HALT] * 100)), 100)
        self.fails(TooMany, 100, Section, "a", "code", [HALT] * 101)
        self.assertEqual(len(Section("a", "code", [HALT] * 40, fixed=True)), 40)
        self.fails(TooMany, 40, Section, "a", "code", [HALT] * 41, fixed=True)
        for kind in KINDS[1:]:
            symbols = places(120) if kind == "kept" else ()
            self.assertEqual(len(Section("a", kind, [0] * 120, symbols=symbols)), 120)
            self.fails(TooMany, 120, Section, "a", kind, [0] * 121, symbols=symbols)

    def test_size(self):
        items = [("push", 1), ("name", "a", 1), ("go", "a"), ("unless", "a"), ("call", "a"), ("bring", "a"),
                 ("far", "p", "s", 0, 0)] + [(op,) for op in SIMPLE]
        section = Section("a", "code", items)
        self.assertEqual([len(section), section.size], [24, 31])
        self.assertEqual(Section("a", "data", [1, ("at", "a", 0)]).size, 2)


class Items(Checks):
    def test_instructions(self):
        right = [(op,) for op in SIMPLE]
        right += [("push", 0), ("push", 65535), ("name", "abcdefghi", 0), ("name", "a", 65535)]
        right += [(op, "b") for op in ("go", "unless", "call", "bring")]
        right += [("far", "a", "b", takes, leaves) for takes in range(3) for leaves in range(3)]
        for item in right:
            self.assertEqual(Section("a", "code", [item, HALT]).body, (item, HALT))

    def test_wrong_instructions(self):
        wrong = [(op, 1) for op in SIMPLE] + [(op, "a") for op in SIMPLE]
        wrong += [[op] for op in SIMPLE] + SIMPLE
        wrong += [("push",), ("push", 1, 1), ["push", 1]] + [("push", thing) for thing in WRONG_WORDS]
        wrong += [("name",), ("name", "a"), ("name", "a", 1, 1), ["name", "a", 1]]
        wrong += [("name", "a", thing) for thing in WRONG_WORDS] + [("name", thing, 1) for thing in WRONG_NAMES]
        for op in ("go", "unless", "call", "bring"):
            wrong += [(op,), (op, "a", "b"), (op, "a", 0), [op, "a"]] + [(op, thing) for thing in WRONG_NAMES]
        wrong += [("far", thing, "b", 0, 0) for thing in WRONG_NAMES]
        wrong += [("far", "a", thing, 0, 0) for thing in WRONG_NAMES]
        wrong += [("far", "a", "b", thing, 0) for thing in WRONG_COUNTS]
        wrong += [("far", "a", "b", 0, thing) for thing in WRONG_COUNTS]
        wrong += [("far",), ("far", "a", "b", 0), ("far", "a", "b", 0, 0, 0), ["far", "a", "b", 0, 0]]
        wrong += [(), None, 0, 1, True, "halt", ("hop", 1), ("jump",), (None,), (("halt",),), (["halt"],),
                  ("at", "a", 0), ("word", 1), ("HALT",)]
        for item in wrong:
            self.fails(BadItem, 1, Section, "a", "code", [HALT, item, HALT])
            self.fails(BadItem, 0, Section, "a", "code", [item, item])

    def test_last_instruction(self):
        for item in (HALT, ("ret",), ("go", "b")):
            self.assertEqual(Section("a", "code", [item]).body, (item,))
        for item in [(op,) for op in SIMPLE if op not in ("halt", "ret")]:
            self.fails(BadItem, 0, Section, "a", "code", [item])
            self.fails(BadItem, 1, Section, "a", "code", [HALT, item])
        for item in (("push", 1), ("unless", "a"), ("call", "a"), ("bring", "a"), ("far", "a", "b", 0, 0)):
            self.fails(BadItem, 2, Section, "a", "code", [HALT, HALT, item])

    def test_const_and_data(self):
        for kind in ("const", "data"):
            body = (0, 65535, ("at", "a", 0), ("at", "abcdefghi", 65535))
            self.assertEqual(Section("a", kind, list(body)).body, body)
            wrong = [-1, 65536, True, False, None, "1", (1,), [1], ("at", "a"), ("at",), ("at", "a", 1, 1), (),
                     ["at", "a", 1], ("name", "a", 1), HALT]
            wrong += [("at", "a", thing) for thing in WRONG_WORDS] + [("at", thing, 1) for thing in WRONG_NAMES]
            for item in wrong:
                self.fails(BadItem, 1, Section, "a", kind, [0, item, -1])

    def test_zero_and_kept(self):
        for item in (1, 65535, -1, True, False, None, "0", ("at", "a", 0), (0,), [0]):
            self.fails(BadItem, 2, Section, "a", "zero", [0, 0, item])
        self.assertEqual(Section("a", "kept", [65535], symbols=places(1)).body, (65535,))
        for item in (65536, -1, True, False, None, "0", ("at", "a", 0), (0,), [0], HALT):
            self.fails(BadItem, 1, Section, "a", "kept", [0, item], symbols=places(2))


class Heads(Checks):
    def test_names(self):
        for thing in WRONG_NAMES:
            self.fails_same(BadName, thing, Section, thing, "code", [HALT])
            self.fails_same(BadName, thing, Unit, thing, [])

    def test_kinds(self):
        for thing in ("", "Code", "codes", None, 0, True, ["code"], ("code",)):
            self.fails_same(BadKind, thing, Section, "a", thing, [HALT])

    def test_alignments(self):
        for align in (1, 2, 4, 8, 16):
            self.assertEqual(Section("a", "data", [], align=align).align, align)
        for thing in (0, 3, -1, 32, True, False, None, "1", (1,), [1]):
            self.fails_same(BadAlign, thing, Section, "a", "code", [HALT], align=thing)

    def test_fixed(self):
        self.assertIs(Section("a", "code", [HALT], fixed=True).fixed, True)
        self.assertIs(Section("a", "code", [HALT]).fixed, False)
        for kind in KINDS[1:]:
            self.assertIs(Section("a", kind, [], fixed=False).fixed, False)
            self.fails(BadFixed, True, Section, "a", kind, [], fixed=True)
        for thing in (0, 1, None, "fixed", ()):
            self.fails_same(BadFixed, thing, Section, "a", "code", [HALT], fixed=thing)


class Symbols(Checks):
    def test_places(self):
        for kind in KINDS:
            body = [HALT, HALT] if kind == "code" else [0, 0]
            most = 2 if kind in ("const", "data", "zero") else 1
            for place in range(most + 1):
                if kind != "kept":
                    self.assertEqual(Section("a", kind, body, symbols=[("s", place, "weak")]).symbols,
                                     (("s", place, "weak"),))
            for place in (-1, most + 1, True, False, None, "0", (0,)):
                self.fails(BadSymbol, 0, Section, "a", kind, body, symbols=[("s", place, "global")])
        self.assertEqual(Section("a", "zero", [], symbols=[("s", 0, "local")]).symbols, (("s", 0, "local"),))
        self.fails(BadSymbol, 0, Section, "a", "kept", [], symbols=[("s", 0, "global")])

    def test_forms(self):
        first = ("s", 0, "local")
        wrong = [(), ("t",), ("t", 0), ("t", 0, "local", 1), ["t", 0, "local"], None, "t", 5,
                 ("t", 0, "Local"), ("t", 0, None), ("t", 0, True), ("t", 0, ["local"]), ("s", 1, "weak")]
        wrong += [(thing, 0, "local") for thing in WRONG_NAMES]
        for symbol in wrong:
            self.fails(BadSymbol, 1, Section, "a", "data", [0, 0], symbols=[first, symbol, ("s", 9, "x")])

    def test_order(self):
        told = [("b", 2, "local"), ("c", 0, "weak"), ("a", 2, "global"), ("d", 0, "local")]
        section = Section("a", "data", [0, 0], symbols=told)
        self.assertEqual(section.symbols, (("c", 0, "weak"), ("d", 0, "local"), ("a", 2, "global"), ("b", 2, "local")))
        self.assertEqual(section, Section("a", "data", (0, 0), symbols=tuple(reversed(told))))

    def test_kept_cells(self):
        body = [1, 2, 3]
        self.assertEqual(Section("a", "kept", body, symbols=reversed_list(places(3))).symbols, tuple(places(3)))
        self.fails(BadCell, 1, Section, "a", "kept", body, symbols=[places(3)[0], places(3)[2]])
        self.fails(BadCell, 0, Section, "a", "kept", body)
        self.fails(BadCell, 2, Section, "a", "kept", body, symbols=places(3) + [("x", 2, "global")])
        for binding in ("weak", "local"):
            symbols = [("k0", 0, "global"), ("k1", 1, binding), ("k2", 2, "local")]
            self.fails(BadCell, 1, Section, "a", "kept", body, symbols=symbols)


def reversed_list(rows):
    return list(reversed(rows))


class Exports(Checks):
    def setUp(self):
        self.symbols = [("a", 0, "global"), ("b", 1, "global"), ("c", 0, "weak"), ("d", 0, "local")]

    def make(self, exports):
        return Section("a", "code", [HALT, HALT], symbols=self.symbols, exports=exports)

    def test_right(self):
        self.assertEqual(self.make([("b", 2, 0), ("a", 0, 2)]).exports, (("a", 0, 2), ("b", 2, 0)))
        self.assertEqual(self.make([("b", 2, 0), ("a", 0, 2)]), self.make((("a", 0, 2), ("b", 2, 0))))

    def test_wrong(self):
        wrong = [(), ("b",), ("b", 0), ("b", 0, 0, 0), ["b", 0, 0], None, "b", ("c", 0, 0), ("d", 0, 0),
                 ("e", 0, 0), ("a", 0, 0), ("a", 1, 1)]
        wrong += [("b", thing, 0) for thing in WRONG_COUNTS] + [("b", 0, thing) for thing in WRONG_COUNTS]
        wrong += [(thing, 0, 0) for thing in WRONG_NAMES]
        for export in wrong:
            self.fails(BadExport, 1, self.make, [("a", 0, 0), export, ("z", 0, 0)])

    def test_elsewhere(self):
        for kind in KINDS[1:]:
            self.fails(BadExport, 0, Section, "a", kind, [0], symbols=[("s", 0, "global")], exports=[("s", 0, 0)])


class Orders(Checks):
    def test_errors_in_order(self):
        """Each row breaks one thing more than the one below it."""
        wrong = dict(align=3, fixed=1, symbols=[("a", 9, "x")], exports=[("q", 0, 0)])
        body = [("jump",)] * 101
        self.fails(BadName, "", Section, "", "x", body, **wrong)
        self.fails(BadKind, "x", Section, "a", "x", body, **wrong)
        self.fails(BadAlign, 3, Section, "a", "code", body, **wrong)
        wrong["align"] = 1
        self.fails(BadFixed, 1, Section, "a", "code", body, **wrong)
        wrong["fixed"] = True
        self.fails(TooMany, 40, Section, "a", "code", body, **wrong)
        body = [("jump",), ("push", 1)]
        self.fails(BadItem, 0, Section, "a", "code", body, **wrong)
        body = [("push", 1), ("push", 1)]
        self.fails(BadItem, 1, Section, "a", "code", body, **wrong)
        body = [("push", 1), HALT]
        self.fails(BadSymbol, 0, Section, "a", "code", body, **wrong)
        wrong["symbols"] = []
        self.fails(BadExport, 0, Section, "a", "code", body, **wrong)
        self.fails(BadSymbol, 1, Section, "a", "kept", [1], symbols=[("a", 0, "weak"), ("b", 1, "global")],
                   exports=[("a", 0, 0)])
        self.fails(BadCell, 0, Section, "a", "kept", [1], symbols=[("a", 0, "weak")], exports=[("a", 0, 0)])


class Sections(Checks):
    def test_equality(self):
        first = Section("a", "code", [HALT], symbols=[("s", 0, "global")], exports=[("s", 0, 0)])
        self.assertEqual(first, Section("a", "code", (HALT,), symbols=(("s", 0, "global"),), exports=(("s", 0, 0),)))
        others = [Section("b", "code", [HALT], symbols=[("s", 0, "global")], exports=[("s", 0, 0)]),
                  Section("a", "code", [("ret",)], symbols=[("s", 0, "global")], exports=[("s", 0, 0)]),
                  Section("a", "code", [HALT], symbols=[("t", 0, "global")]),
                  Section("a", "code", [HALT], symbols=[("s", 0, "global")]),
                  Section("a", "code", [HALT], symbols=[("s", 0, "global")], exports=[("s", 0, 1)]),
                  Section("a", "code", [HALT], symbols=[("s", 0, "global")], exports=[("s", 0, 0)], align=2),
                  Section("a", "code", [HALT], symbols=[("s", 0, "global")], exports=[("s", 0, 0)], fixed=True)]
        for other in others + [None, "a", 5]:
            self.assertNotEqual(first, other)
        self.assertNotEqual(Section("a", "zero", [0]), Section("a", "data", [0]))

    def test_what_was_passed_is_copied(self):
        body, symbols, exports = [HALT], [("s", 0, "global")], [("s", 0, 0)]
        section = Section("a", "code", body, symbols=symbols, exports=exports)
        body.append(HALT)
        symbols.clear()
        exports.clear()
        self.assertEqual([section.body, section.symbols, section.exports],
                         [(HALT,), (("s", 0, "global"),), (("s", 0, 0),)])

    def test_references(self):
        section = Section("a", "code", [("name", "b", 1), ("go", "c"), ("unless", "b"), ("call", "e"), ("bring", "d"),
                                        ("far", "x", "y", 0, 0), ("push", 1), ("go", "c")])
        self.assertEqual(references(section), ("b", "c", "b", "e", "d", "c"))
        self.assertEqual(references(Section("a", "const", [1, ("at", "q", 1), ("at", "q", 2)])), ("q", "q"))
        self.assertEqual(references(Section("a", "zero", [0])), ())


class Units(Checks):
    def test_unit(self):
        first = code("main", [HALT], [("s", 0, "global")])
        second = cells("more", "data", [1], [("t", 1, "local"), ("u", 0, "weak")])
        made = Unit("app", [first, second])
        self.assertEqual([made.name, made.sections, len(made), list(made)], ["app", (first, second), 2, [first, second]])
        self.assertIs(made["more"], second)
        for name in ("app", "s", None, 5, ["main"]):
            self.fails(NoSection, name, lambda at: made[at], name)
        self.assertEqual([name in made for name in ("s", "t", "u", "main", None)], [True, True, True, False, False])
        self.assertIs(section_of(made, "t"), second)
        self.assertIsNone(section_of(made, "main"))
        self.assertEqual(made, Unit("app", (first, second)))
        for other in (Unit("app", [second, first]), Unit("bpp", [first, second]), Unit("app", [first]), None, "app"):
            self.assertNotEqual(made, other)
        self.assertEqual(len(Unit("app", [])), 0)

    def test_what_was_passed_is_copied(self):
        sections = [code("main", [HALT])]
        made = Unit("app", sections)
        sections.clear()
        self.assertEqual(len(made), 1)

    def test_errors(self):
        rows = [cells(f"s{k}", "zero", []) for k in range(9)]
        self.assertEqual(len(Unit("a", rows[:8])), 8)
        self.fails(TooMany, 8, Unit, "a", rows)
        self.fails(BadName, "A", Unit, "A", rows)
        twice = cells("s1", "zero", [], [("x", 0)])
        self.fails(TooMany, 8, Unit, "a", rows + [twice])
        self.fails(Twice, "s1", Unit, "a", rows[:3] + [twice] + rows[:1])
        self.fails(Twice, "s2", Unit, "a", [rows[2], rows[1], rows[2], rows[1]])

    def test_symbols_twice(self):
        first = cells("a", "data", [0], [("m", 0), ("k", 0), ("z", 0)])
        for binding in ("local", "global", "weak"):
            second = cells("b", "data", [0], [("z", 0, binding), ("k", 0, binding), ("b", 0, "local")])
            self.fails(Twice, "k", unit, "u", first, second)
        second = cells("b", "data", [0], [("z", 0)])
        self.fails(Twice, "a", unit, "u", first, second, first)
        self.fails(Twice, "z", unit, "u", first, second)


if __name__ == "__main__":
    unittest.main()
