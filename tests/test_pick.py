"""Programs picked from units and archives: [20] to [22], and what [7] and [32] tell of them."""

import unittest

from making import made_picked
from checks import Checks, cells, code, kept, unit

from romwright.pick import Archive, pick, Picked
from romwright.plain import BadName, Missing, NoName, NoSection, TooMany, Twice, Unfit, Unlike, Unplaced, Wanted
from romwright.script import Script

HALT = ("halt",)
ALL = ["region flash rom 16 1000", "region work ram 1 500", "place text in flash align 1 fill 0 take *.[code] *.[const]",
       "place vars in work load flash align 1 fill 0 take *.*", "entry begin"]


def script(*lines):
    return Script(ALL + list(lines))


def calls(name, *targets, symbols=(), **more):
    """A code section with a global symbol of its own, which calls these."""
    return code(name, [*[("call", target) for target in targets], HALT], symbols, **more)


def begin(*targets):
    return unit("app", calls("main", *targets, symbols=[("begin", 0)]))


def weak(name, symbol, *targets):
    return calls(name, *targets, symbols=[(symbol, 0, "weak")])


def strong(name, symbol, *targets):
    return calls(name, *targets, symbols=[(symbol, 0)])


class Archives(Checks):
    def test_contains_and_iterates(self):
        one = unit("a", code("c", [HALT], [("x", 0), ("y", 0, "weak"), ("z", 0, "local")]))
        archive = Archive("lib", [one, unit("b")])
        self.assertEqual([name in archive for name in ("x", "y", "z", "c", "lib")], [True, True, False, False, False])
        self.assertEqual(list(archive), [one, unit("b")])
        self.assertEqual((archive.name, archive.units), ("lib", (one, unit("b"))))

    def test_copies(self):
        units = [unit("a")]
        archive = Archive("lib", units)
        units.append(unit("b"))
        self.assertEqual(archive.units, (unit("a"),))

    def test_errors(self):
        many = [unit("a")] * 9
        self.fails(BadName, "Lib", Archive, "Lib", many)
        self.fails(TooMany, 8, Archive, "lib", many)
        self.fails(Twice, "a", Archive, "lib", [unit("b"), unit("b"), unit("a"), unit("c"), unit("a")])
        self.assertEqual(len(Archive("lib", [unit(f"a{k}") for k in range(8)]).units), 8)
        # Two units of an archive may have one global symbol.
        Archive("lib", [unit("a", strong("c", "x")), unit("b", strong("c", "x"))])


class Meanings(Checks):
    def called(self, units, archives, by="app.main"):
        """The names of the sections that a section's calls lead to."""
        program = pick(script(), units, archives).program
        body = program.sections[program[by]].body
        return [program.sections[item[1]].name for item in body if item[0] == "call"]

    def test_units_go_ahead_of_archives(self):
        lib = Archive("lib", [unit("z", strong("c", "x"))])
        self.assertEqual(self.called([begin("x"), unit("b", strong("c", "x"))], [lib]), ["b.c"])
        self.assertEqual(self.called([begin("x"), unit("b", weak("c", "x"))], [lib]), ["b.c"])
        self.assertEqual(self.called([begin("x")], [lib]), ["z.c"])

    def test_first_archive_that_has_one(self):
        first = Archive("one", [unit("f", strong("c", "y"))])
        later = Archive("two", [unit("l", weak("c", "x"))])
        last = Archive("six", [unit("k", strong("c", "x"))])
        self.assertEqual(self.called([begin("x")], [first, later, last]), ["l.c"])
        self.assertEqual(self.called([begin("x")], [first, last, later]), ["k.c"])

    def test_least_unit_of_an_archive(self):
        rows = [unit("q", strong("c", "x")), unit("p", strong("c", "x")), unit("o", weak("c", "x")),
                unit("n", calls("c", symbols=[("x", 0, "local")]))]
        self.assertEqual(self.called([begin("x")], [Archive("lib", rows)]), ["p.c"])
        self.assertEqual(self.called([begin("x")], [Archive("lib", [unit("s", weak("c", "x")), rows[2]])]), ["o.c"])

    def test_local_symbols_of_archive_units(self):
        inner = unit("p", strong("c", "x", "help"), calls("d", symbols=[("help", 0, "local")]))
        other = unit("o", strong("c", "help"))
        self.assertEqual(self.called([begin("x")], [Archive("lib", [inner, other])], "p.c"), ["p.d"])
        # What is local there means nothing elsewhere.
        self.fails(Missing, "help", pick, script(), [begin("x", "help")], [Archive("lib", [inner])])
        again = Archive("two", [other])
        self.assertEqual(self.called([begin("x", "help")], [Archive("lib", [inner]), again]), ["p.c", "o.c"])

    def test_archives_use_units(self):
        lib = Archive("lib", [unit("z", strong("c", "x", "y"), strong("d", "y"))])
        self.assertEqual(self.called([begin("x"), unit("b", weak("c", "y"))], [lib], "z.c"), ["b.c"])

    def test_entry_in_an_archive(self):
        lib = Archive("lib", [unit("z", calls("c", symbols=[("begin", 0)]))])
        made = pick(script(), [], [lib])
        self.assertEqual((made.program.entry, made.taken, made.dead), ((0, 0), ("z",), ()))

    def test_hidden_exports_do_not_count(self):
        inner = unit("p", code("c", [HALT], [("x", 0), ("y", 0)], [("x", 1, 1), ("y", 0, 2)]))
        made = pick(script(), [begin("y"), unit("b", strong("c", "x"))], [Archive("lib", [inner])])
        self.assertEqual(made.program.offers, (("y", 0, 2),))
        self.assertEqual(("x" in made.program, "y" in made.program), (False, True))
        read = [each for each in made.kept_units() if each.name == "p"][0]
        self.assertEqual(read["c"].symbols, (("y", 0, "global"),))
        self.assertEqual(read["c"].exports, (("y", 0, 2),))
        # Also if what its name means is in no program.
        other = unit("b", weak("c", "x"))
        self.assertEqual(pick(script(), [begin("y"), other], [Archive("lib", [inner])]).program.offers, (("y", 0, 2),))
        self.assertEqual(pick(script(), [begin("y"), unit("b")], [Archive("lib", [inner])]).program.offers,
                         (("x", 1, 1), ("y", 0, 2)))


class WantedSections(Checks):
    def test_roots(self):
        units = [unit("app", calls("main", symbols=[("begin", 0)]), strong("spare", "s"), cells("k", "const", [])),
                 unit("b", code("e", [HALT], [("go1", 0)], [("go1", 0, 0)]), strong("spare", "t"))]
        made = pick(script(), units)
        self.assertEqual([each.name for each in made.program], ["app.main", "b.e"])
        self.assertEqual(made.dead, ("app.k", "app.spare", "b.spare"))
        made = pick(script("keep *.spare", "keep *.[const]"), units)
        self.assertEqual([each.name for each in made.program],
                         ["app.main", "app.spare", "app.k", "b.e", "b.spare"])
        self.assertEqual(made.dead, ())

    def test_archives_are_no_roots(self):
        lib = Archive("lib", [unit("z", code("e", [HALT], [("x", 0)], [("x", 0, 0)]), cells("spare", "const", []))])
        made = pick(script("keep *.*"), [begin()], [lib])
        self.assertEqual(([each.name for each in made.program], made.dead, made.taken), (["app.main"], (), ()))

    def test_taken_and_dead(self):
        lib = Archive("lib", [unit("z", strong("c", "x", "y"), strong("e", "w")), unit("a", strong("d", "y")),
                              unit("m", strong("d", "v"))])
        made = pick(script(), [begin("x"), unit("b", strong("n", "u"), strong("m", "t"))], [lib])
        self.assertEqual(made.taken, ("a", "z"))
        self.assertEqual(made.dead, ("b.m", "b.n"))
        self.assertEqual([each.name for each in made.program], ["a.d", "app.main", "z.c"])

    def test_every_reference_wants(self):
        first = code("main", [("name", "d", 0), ("drop",), ("bring", "z"), HALT], [("begin", 0)])
        others = [cells("d", "data", [("at", "c", 0)], [("d", 0)]), cells("c", "const", [1], [("c", 0)]),
                  cells("z", "zero", [0], [("z", 0)]), cells("none", "zero", [0], [("n", 0)])]
        made = pick(script(), [unit("app", first, *others)])
        self.assertEqual([each.name for each in made.program], ["app.main", "app.d", "app.c", "app.z"])

    def test_chains(self):
        rows = [strong("p", "p", "r"), strong("q", "q", "r"), strong("r", "r", "s"), strong("s", "s"),
                strong("t", "t", "s", "t")]
        units = [unit("app", calls("main", "q", "p", "t", symbols=[("begin", 0)])), unit("b", *rows)]
        made = pick(script(), units)
        self.assertEqual(made.why("app.main"), ("app.main",))
        self.assertEqual(made.why("b.r"), ("app.main", "b.p", "b.r"))
        self.assertEqual(made.why("b.s"), ("app.main", "b.t", "b.s"))
        for order in (("p", "q", "t"), ("t", "p", "q"), ("q", "t", "p")):
            turned = pick(script(), [unit("app", calls("main", *order, symbols=[("begin", 0)])), units[1]])
            self.assertEqual(turned.why("b.r"), ("app.main", "b.p", "b.r"))
        kept_too = pick(script("keep b.r"), units)
        self.assertEqual(kept_too.why("b.r"), ("b.r",))
        self.assertEqual(kept_too.why("b.s"), ("b.r", "b.s"))
        self.fails(NoSection, "b.none", made.why, "b.none")
        self.fails(NoSection, "b", made.why, "b")

    def test_chains_of_one_length_by_their_first_names(self):
        rows = [strong("a", "a1", "x2"), strong("z", "z1", "x1"), strong("b", "x1", "y"), strong("c", "x2", "y"),
                strong("y", "y")]
        made = pick(script(), [unit("app", calls("main", "z1", "a1", symbols=[("begin", 0)])), unit("b", *rows)])
        self.assertEqual(made.why("b.y"), ("app.main", "b.a", "b.c", "b.y"))

    def test_dead_sections_are_not_wanted_by_chance(self):
        for seed in range(60):
            _, units, archives, made = made_picked(seed)
            names = [each.name for each in made.program]
            self.assertEqual(names, sorted(names, key=lambda name: name.split(".")[0]))
            own = [f"{one.name}.{each.name}" for one in units for each in one]
            self.assertEqual(made.dead, tuple(sorted(set(own) - set(names))))
            for name in names:
                chain = made.why(name)
                self.assertEqual(chain[-1], name)
                for one, other in zip(chain, chain[1:]):
                    body = made.program.sections[made.program[one]].body
                    targets = [item[1] for item in body if isinstance(item, tuple)
                               and item[0] in ("go", "unless", "call", "bring", "name", "at")]
                    self.assertIn(made.program[other], targets)


class Errors(Checks):
    def test_counts(self):
        many = [unit(f"u{k}") for k in range(13)]
        archives = [Archive(f"l{k}", []) for k in range(5)]
        self.fails(TooMany, 12, pick, script(), many, archives)
        self.fails(TooMany, 4, pick, script(), many[:12] + [], archives)
        self.fails(Missing, "begin", pick, script(), many[:12], archives[:4])

    def test_twice(self):
        two = [unit("b"), unit("b"), unit("a", strong("c", "x")), unit("c", strong("c", "x"))]
        self.fails(Twice, "a", pick, script(), two, [Archive("lib", [unit("a")])])
        self.fails(Twice, "a", pick, script(), [], [Archive("lib", [unit("a")]), Archive("two", [unit("a")])])
        self.fails(Twice, "b", pick, script(), two)
        rows = [strong("c", "y"), strong("d", "x")]
        self.fails(Twice, "x", pick, script(), [unit("a", *rows), unit("b", *rows)])
        # Ahead of what is missing.
        self.fails(Twice, "x", pick, script(), [unit("a", *rows), unit("b", calls("e", "no", symbols=[("x", 0)]))])

    def test_entry(self):
        self.fails(Missing, "begin", pick, script(), [unit("a", calls("c", symbols=[("begin", 0, "local")]))])
        data = unit("a", cells("c", "data", [1], [("begin", 0)]), code("e", [("go", "no")], [("x", 0)], [("x", 0, 0)]))
        self.fails(Unlike, "begin", pick, script(), [data])
        made = pick(script(), [unit("a", weak("c", "begin")), unit("b", weak("c", "begin"))])
        self.assertEqual(made.program.sections[made.program.entry[0]].name, "a.c")

    def cause(self, error, name, section, units, *lines, archives=()):
        with self.assertRaises(error) as caught:
            pick(script(*lines), units, archives)
        self.assertEqual(caught.exception.name, name)
        self.assertIs(caught.exception.__cause__.__class__, Wanted)
        self.assertEqual(caught.exception.__cause__.section, section)

    def test_missing_and_unlike(self):
        data = cells("d", "data", [("at", "f", 0)], [("d", 0)])
        func = strong("f", "f", "no")
        first = code("main", [("call", "f"), ("name", "d", 0), HALT], [("begin", 0)])
        # A queue: the sections that main refers to come in its order.
        self.cause(Missing, "no", "app.f", [unit("app", first, data, func)])
        turned = code("main", [("name", "d", 0), ("call", "f"), HALT], [("begin", 0)])
        self.cause(Unlike, "f", "app.d", [unit("app", turned, data, func)])
        self.cause(Unlike, "d", "app.main", [unit("app", code("main", [("call", "d"), ("go", "no")], [("begin", 0)]), data)])
        bad = code("main", [("name", "begin", 0), ("call", "no"), HALT], [("begin", 0)])
        self.cause(Unlike, "begin", "app.main", [unit("app", bad)])

    def test_roots_in_their_order(self):
        rows = [strong("k", "k", "nok"), code("x", [("go", "nox")], [("b", 0)], [("b", 0, 0)]),
                code("y", [("go", "noy")], [("a", 0)], [("a", 0, 0)]), strong("j", "j", "noj")]
        units = [begin(), unit("b", *rows)]
        self.cause(Missing, "noy", "b.y", units)
        self.cause(Missing, "nok", "b.k", units, "keep b.k")
        self.cause(Missing, "noj", "b.j", units, "keep b.j", "keep b.k")
        self.cause(Missing, "nok", "b.k", units, "keep *.*")
        self.cause(Missing, "nox", "b.x", [begin("k", "b"), unit("b", rows[1], strong("k", "k"))])

    def test_what_nobody_wants_is_not_looked_at(self):
        pick(script(), [begin(), unit("b", strong("c", "x", "no"))], [Archive("lib", [unit("d", strong("c", "y", "no"))])])

    def test_forty_sections(self):
        names = [f"s{k}" for k in range(40)]
        rows = [unit(f"u{k}", *[strong(name, name) for name in names[8 * k:8 * k + 8]]) for k in range(5)]
        self.assertEqual(len(pick(script(), [begin(*names[:39])] + rows).program), 40)
        self.fails(TooMany, 40, pick, script(), [begin(*names)] + rows)

    def test_twelve_units_with_a_section(self):
        names = [f"s{k}" for k in range(12)]
        units = [unit(f"u{k}", strong("c", names[k])) for k in range(12)]
        lib = Archive("lib", units[:8])
        more = Archive("more", units[8:])
        self.assertEqual(len(pick(script(), [begin(*names[:11])], [lib, more]).taken), 11)
        self.fails(TooMany, 12, pick, script(), [begin(*names)], [lib, more])
        # Units without a wanted section do not count.
        spare = [unit(f"v{k}", strong("c", f"t{k}")) for k in range(11)]
        pick(script(), [begin(*names[:11])] + spare, [lib, more])
        # Sections are counted ahead of units.
        big = [f"b{k}x{j}" for k in range(4) for j in range(8)]
        large = Archive("large", [unit(f"w{k}", *[strong(f"n{j}", f"b{k}x{j}") for j in range(8)]) for k in range(4)])
        self.fails(TooMany, 40, pick, script(), [begin(*names, *big)], [lib, more, large])

    def test_kept_cells_that_are_hidden(self):
        lib = Archive("lib", [unit("z", strong("c", "x", "y"), kept("k", q=1, p=2))])
        use = unit("z", code("c", [("bring", "r"), HALT], [("x", 0)]), kept("k", q=1, p=2, r=3))
        self.assertEqual(pick(script(), [begin("x")], [Archive("lib", [use])]).program.cells[0][0], "p")
        mine = unit("b", kept("k", q=5, p=6))
        self.fails(Twice, "p", pick, script(), [begin("x"), mine], [Archive("lib", [use])])
        # Ahead of what cannot be placed, behind what is missing; a weak symbol hides, too.
        rows = ["region flash rom 16 90", "place text in flash align 1 fill 0 take a.main", "entry begin"]
        mine = unit("b", cells("d", "data", [1], [("q", 0, "weak")]))
        self.fails(Twice, "q", pick, Script(rows), [begin("x"), mine], [Archive("lib", [use])])
        self.fails(Missing, "y", pick, Script(rows), [begin("x"), mine], [lib])
        # If the hidden ones are not wanted, nothing is wrong.
        pick(script(), [begin(), unit("b", kept("k", q=5))], [Archive("lib", [use])])

    def test_unplaced_and_unfit(self):
        text = "place text in flash align 1 fill 0 take *.[code]"
        head = ["region flash rom 16 90", "region work ram 1 90", "entry begin"]
        units = [unit("app", calls("main", symbols=[("begin", 0)]), kept("k", a=1), cells("z", "zero", [0]))]
        keeps = ["keep *.*"]
        self.fails(Unplaced, "app.k", pick, Script(head + [text] + keeps), units)
        vars_place = "place vars in work align 1 fill 0 take *.*"
        self.fails(Unfit, "app.main", pick, Script(head + [vars_place, text] + keeps), units)
        self.fails(Unfit, "app.k", pick, Script(head + [text, vars_place] + keeps), units)
        loaded = "place vars in work load flash align 1 fill 0 take *.[kept]"
        rest = "place rest in work align 1 fill 0 take *.*"
        self.assertEqual(pick(Script(head + [text, loaded, rest] + keeps), units).where, ("text", "vars", "rest"))
        # The first section decides, not the first error.
        self.fails(Unfit, "app.k", pick, Script(head + [text, "place p in flash align 1 fill 0 take *.k"] + keeps), units)

    def test_what_each_place_holds(self):
        head = ["region flash rom 16 90", "region work ram 1 90", "entry begin", "keep x.*"]
        main = "place text in flash align 1 fill 0 take app.*"
        places = {"place p in flash align 1 fill 0 take x.*": ("code", "const"),
                  "free p in flash align 1 fill 0 take x.*": ("code", "const"),
                  "place p in work align 1 fill 0 take x.*": ("zero",),
                  "place p in work load flash align 1 fill 0 take x.*": ("code", "const", "data", "zero", "kept"),
                  "overlay o in work load flash fill 0\npart p align 1 take x.*": ("code", "const", "data", "zero")}
        for line, kinds in places.items():
            for kind in ("code", "const", "data", "zero", "kept"):
                section = code("c", [HALT]) if kind == "code" else cells("c", kind, [])
                rows = Script(head + [main] + line.split("\n"))
                if kind in kinds:
                    self.assertEqual(pick(rows, [begin(), unit("x", section)]).where, ("text", "p"))
                else:
                    self.fails(Unfit, "x.c", pick, rows, [begin(), unit("x", section)])


class Places(Checks):
    LINES = ["region flash rom 16 900", "region work ram 1 90", "place one in flash align 1 fill 0 take b.* *.[const] a.c",
             "free two in flash align 1 fill 0 take *.[code] *.*", "overlay o in work load flash fill 0",
             "part px align 1 take *.d", "part py align 1 take *.[zero]", "entry begin", "keep *.*"]

    def picked(self):
        units = [unit("b", strong("c", "bc"), cells("k", "const", [])),
                 unit("a", strong("e", "ae"), cells("k", "const", []), strong("c", "ac"), strong("x", "begin"))]
        return pick(Script(self.LINES), units)

    def test_where_and_in_place(self):
        made = self.picked()
        self.assertEqual([each.name for each in made.program], ["a.e", "a.k", "a.c", "a.x", "b.c", "b.k"])
        self.assertEqual(made.where, ("two", "one", "one", "two", "one", "one"))
        # By the patterns, then as in the program.
        self.assertEqual(made.in_place("one"), (4, 5, 1, 2))
        self.assertEqual(made.in_place("two"), (0, 3))
        self.assertEqual(made.in_place("px"), ())
        for name in ("flash", "o", "none", "b.c"):
            self.fails(NoName, name, made.in_place, name)

    def test_parts(self):
        lines = self.LINES[:3] + ["overlay o in work load flash fill 0", "part px align 1 take a.d", "part py align 1 take a.z",
                                  "overlay q in work load flash fill 0", "part pz align 1 take a.w", "entry begin",
                                  "place rest in flash align 1 fill 0 take *.*", "keep *.*"]
        made = pick(Script(lines), [unit("a", cells("w", "data", []), cells("d", "data", []), cells("z", "zero", []),
                                         strong("x", "begin"))])
        self.assertEqual(made.program.parts, ((1, 0), (0, 0), (0, 1), None))
        self.assertEqual(made.where, ("pz", "px", "py", "rest"))

    def test_attributes_and_copies(self):
        made = self.picked()
        self.assertIsInstance(made, Picked)
        self.assertEqual(made.script, Script(self.LINES))
        made.kept_units().pop()
        self.assertEqual([each.name for each in made.kept_units()], ["a", "b"])

    def test_kept_units_are_the_same_program(self):
        for seed in range(60):
            lines, _, _, made = made_picked(seed)
            again = pick(lines, made.kept_units())
            self.assertEqual(again.program, made.program)
            self.assertEqual((again.where, again.dead, again.taken), (made.where, (), ()))
            self.assertEqual(again.kept_units(), made.kept_units())

    def test_kept_units(self):
        lib = Archive("lib", [unit("z", code("c", [("go", "l")], [("x", 0), ("h", 0, "weak"), ("l", 0, "local")]),
                                   strong("dead", "w"))])
        made = pick(script(), [begin("x"), unit("b", weak("c", "h")), unit("c")], [lib])
        self.assertEqual(made.kept_units(), [
            begin("x"), unit("z", code("c", [("go", "l")], [("x", 0), ("l", 0, "local")]))])


if __name__ == "__main__":
    unittest.main()
