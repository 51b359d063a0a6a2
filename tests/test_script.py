"""Promises [16] and [19], and what [22] says of patterns and of the numbers of groups and parts."""

import unittest

from checks import Checks
from romwright.exprs import read_expr
from romwright.plain import BadLine, BadStatement, NoName, Ring, TooMany, Unknown
from romwright.script import Claim, Entry, fits, Formula, Free, Keep, Let, Named, Overlay, Part, Place, Region, Script
from romwright.script import Statement, Taking

ROM = "region rom rom 16 100"
RAM = "region ram ram 1 100"
ENTRY = "entry begin"
WHOLE = """region flash rom 16 1000
region extra rom 1100 900
region work ram 1 500
region more ram 600 64000
place text in flash align 4 fill 65535 take boot.* *.[code]
place vars in work load flash align 1 fill 0 take *.[kept] *.[data]
place zeros in more align 16 fill 7 take *.[zero]
free tables in flash extra align 2 fill 1 take *.[const] a.b
overlay fast in work load extra fill 9
part one align 8 take x.*
part two align 1 take y.* z.one
overlay slow in more load flash fill 8
part three align 2 take *.*
entry begin
keep *.[kept]
keep a.b
let used be start text + size fast
let home2 be home + used flash
claim home2 >= room flash and not start one = load three
claim kept count or exported begin""".split("\n")


def script(*lines):
    return Script([ROM, RAM, ENTRY, *lines])


class Example(Checks):
    def test_example(self):
        lines = ["region flash rom 16 100", "region work ram 1 20", "place text in flash align 1 fill 0 take *.[code]",
                 "place vars in work load flash align 1 fill 0 take *.[kept]", "entry begin"]
        made = Script(lines)
        self.assertEqual([made.lines(), made.entry, made["vars"].load], [lines, "begin", "flash"])


class Whole(Checks):
    def test_lines(self):
        self.fails(BadStatement, 16, Script, WHOLE)
        lines = [line.replace("let used be", "let lot be") for line in WHOLE]
        made = Script(lines)
        self.assertEqual(made.lines(), lines)
        self.assertEqual([each.line() for each in made], lines)
        kinds = [Region] * 4 + [Place] * 3 + [Free, Overlay, Part, Part, Overlay, Part, Entry, Keep, Keep, Let, Let,
                                              Claim, Claim]
        self.assertEqual([each.__class__ for each in made.statements], kinds)
        self.assertEqual(list(made), list(made.statements))
        self.check_attributes(made)

    def check_attributes(self, made):
        self.assertEqual(made.regions, made.statements[:4])
        self.assertEqual([each.name for each in made.places], ["text", "vars", "zeros", "tables", "one", "two", "three"])
        self.assertEqual([each.name for each in made.overlays], ["fast", "slow"])
        self.assertEqual([made.entry, made.keeps], ["begin", ("*.[kept]", "a.b")])
        self.assertEqual(made.lets, {"lot": read_expr("start text + size fast".split()),
                                     "home2": read_expr("home + used flash".split())})
        self.assertEqual(made.claims[1], read_expr("kept count or exported begin".split()))
        for each in (made.statements, made.regions, made.places, made.overlays, made.keeps, made.claims):
            self.assertIsInstance(each, tuple)
        region, place, loaded, free = made["flash"], made["text"], made["vars"], made["tables"]
        self.assertEqual([region.name, region.kind, region.start, region.length], ["flash", "rom", 16, 1000])
        self.assertEqual([place.region, place.load, place.align, place.fill, place.take],
                         ["flash", None, 4, 65535, ("boot.*", "*.[code]")])
        self.assertEqual([loaded.region, loaded.load], ["work", "flash"])
        self.assertEqual([free.regions, free.align, free.fill, free.take],
                         [("flash", "extra"), 2, 1, ("*.[const]", "a.b")])
        overlay, part = made["slow"], made["three"]
        self.assertEqual([overlay.region, overlay.load, overlay.fill], ["more", "flash", 8])
        self.assertEqual([part.align, part.take, part.fill, part.overlay, part.group, part.part],
                         [2, ("*.*",), 8, "slow", 1, 0])
        self.assertEqual([(made[name].group, made[name].part, made[name].fill) for name in ("one", "two")],
                         [(0, 0, 9), (0, 1, 9)])
        for name in ("lot", "begin", "home2", "nothing", None, 5):
            self.assertNotIn(name, made)
            self.fails(NoName, name, lambda at: made[at], name)
        for name in ("flash", "text", "tables", "fast", "one"):
            self.assertIn(name, made)

    def test_classes(self):
        self.assertTrue(issubclass(Named, Statement) and issubclass(Taking, Named) and issubclass(Formula, Statement))
        for each in (Entry, Keep, Claim):
            self.assertTrue(issubclass(each, Statement) and not issubclass(each, Named))
        for each in (Region, Overlay, Let, Place, Free, Part):
            self.assertTrue(issubclass(each, Named))
        for each in (Place, Free, Part):
            self.assertTrue(issubclass(each, Taking))
        self.assertTrue(issubclass(Let, Formula) and issubclass(Claim, Formula))
        self.assertFalse(issubclass(Region, Taking) or issubclass(Overlay, Taking))
        for each in (Statement, Entry, Keep, Claim, Named, Region, Overlay, Let, Taking, Place, Free, Part, Formula):
            self.assertIn("__eq__", vars(each))

    def test_equality(self):
        first = script("let a be ( 1 + 2 )", "claim a")
        self.assertEqual(first, script("let a be 1 + 2", "claim ( a )"))
        self.assertNotEqual(first, script("claim a", "let a be 1 + 2"))
        self.assertNotEqual(first, script("let a be 1 + 2"))
        self.assertNotEqual(first, None)
        self.assertEqual(first.statements[3], script("let a be 1 + 2").statements[3])
        self.assertNotEqual(first.statements[3], first.statements[4])
        self.assertEqual(first.lines(), [ROM, RAM, ENTRY, "let a be 1 + 2", "claim a"])
        self.assertNotEqual(first.statements[2], ENTRY)

    def test_equality_of_each_kind(self):
        lines = [line.replace("let used be", "let lot be") for line in WHOLE]
        first, second = Script(lines), Script(lines)
        for k, each in enumerate(first):
            for j, other in enumerate(second):
                self.assertIs(each == other, k == j)
                self.assertIs(each != other, k != j)
            self.assertFalse(each == lines[k] or each is None or each == 5)

    def test_extended(self):
        first = script()
        lines = ["claim 1", "place p in rom align 1 fill 0 take *.*"]
        second = first.extended(lines)
        self.assertEqual(second, script(*lines))
        self.assertEqual(first, script())
        self.assertEqual(first.extended([]), first)
        self.fails(BadLine, 4, first.extended, ["claim 1", "claims"])
        self.fails(BadStatement, 3, first.extended, [ENTRY])
        self.fails(Unknown, "x", first.extended, ["claim x"])
        self.fails(TooMany, 64, first.extended, ["keep *.*"] * 62)
        self.assertEqual(first.extended(["let a be b", "let b be 1"]).lets, {"a": ("let", "b"), "b": ("number", 1)})
        again = script("let a be 1").extended(["claim a"])
        self.assertEqual(again.claims, (("let", "a"),))

    def test_what_is_returned_belongs_to_the_caller(self):
        made = script("keep *.*")
        made.lines().clear()
        self.assertEqual(len(made.lines()), 4)


class Forms(Checks):
    def right(self, *lines):
        for line in lines:
            made = script(line)
            self.assertEqual(made.lines()[3:], [line])

    def wrong(self, *lines):
        for line in lines:
            self.fails(BadLine, 3, script, line, "x")
            self.fails(BadLine, 0, Script, [line, "x"])

    def test_words(self):
        self.wrong("", " ", "x", "regions a rom 16 1", "Region a rom 16 1", " entry a", "entry  a", "entry a ", "region")
        for line in WHOLE:
            for spoilt in (line + " ", " " + line, line.replace(" ", "  ", 1), line.upper(), line + "\n",
                           line.split(" ")[0], " ".join(line.split(" ")[:-1])):
                if spoilt not in ("entry begin", "keep a.b", "claim kept", "part two align 1 take y.*") and not (
                        spoilt.startswith(("place ", "free ")) and spoilt.endswith(("]", "*"))):
                    self.wrong(spoilt)

    def test_regions(self):
        self.right("region a rom 1000 10", "region a ram 1000 1", "region region ram 200 1", "region rom2 rom 2000 48")
        self.wrong("region a rom 16", "region a rom 16 1 1", "region A rom 16 1", "region a Rom 16 1", "region a xam 16 1",
                   "region a rom 016 1", "region a rom -1 1", "region a rom x 1", "region a rom 16 1.0", "region a rom 16 +1",
                   "region a rom 16 \u0661", "region abcdefghij rom 16 1")
        for number in ("0", "65536", "99999999999999999999", "9" * 5000):
            self.fails(BadStatement, 3, script, f"region a rom {number} 1")
            self.fails(BadStatement, 3, script, f"region a ram 200 {number}")

    def test_places(self):
        self.right("place p in rom align 1 fill 0 take a.b", "place p in ram align 16 fill 65535 take *.* a.[zero] *.x",
                   "place p in ram load rom align 2 fill 1 take *.[code]")
        self.wrong("place p in rom align 3 fill 0 take a.b", "place p in rom align 1 fill 65536 take a.b",
                   "place p in rom align 1 fill 0 take", "place p in rom align 1 fill 0", "place p in rom fill 0 take a.b",
                   "place p in rom aligned 1 fill 0 take a.b", "place p in rom align 1 filled 0 take a.b",
                   "place p in rom align", "place p in rom align 1", "place p in rom align 1 fill",
                   "place p rom align 1 fill 0 take a.b", "place P in rom align 1 fill 0 take a.b",
                   "place p in Rom align 1 fill 0 take a.b", "place p in rom ram align 1 fill 0 take a.b",
                   "place p in ram load align 1 fill 0 take a.b", "place p in ram load Rom align 1 fill 0 take a.b",
                   "place p in ram load rom load rom align 1 fill 0 take a.b", "place p in rom align 1 fill 0 takes a.b",
                   "place p in rom align 01 fill 0 take a.b", "place p in rom align 1 fill 00 take a.b",
                   "place p in rom align 32 fill 0 take a.b", "place p in rom align 0 fill 0 take a.b",
                   "place p in rom align 1 fill -1 take a.b", "place p in", "place p in rom", "place p in rom load",
                   "place p at rom align 1 fill 0 take a.b")

    def test_patterns(self):
        for pattern in ("a.b", "*.*", "*.b", "a.*", "*.[code]", "a.[const]", "*.[data]", "*.[zero]", "*.[kept]",
                        "code.kept"):
            self.right(f"place p in rom align 1 fill 0 take a.b {pattern}", f"keep {pattern}")
        for pattern in ("a", "a.", ".a", "a.b.c", "*", "**.a", "a.[Code]", "a.[code", "a.code]", "a.[]", "[code].a",
                        "a.(code)", "a.[code)", "a.(code]", "a.[x]", "A.b", "a.B", "a.1b", "abcdefghij.a", "a.*b", "a.[[code]]", "", "a.b,", "..", "*.[*]"):
            self.wrong(f"place p in rom align 1 fill 0 take a.b {pattern}", f"keep {pattern}")

    def test_free(self):
        self.right("free f in rom align 1 fill 0 take a.b")
        made = Script(["region align rom 16 10", "region b rom 100 10", "region align2 rom 300 10",
                       "free free in align b align2 align 4 fill 0 take take.align", ENTRY])
        self.assertEqual(made["free"].regions, ("align", "b", "align2"))
        made = Script(["region align rom 16 10", "free f in align align 4 fill 0 take a.b", ENTRY])
        self.assertEqual(made["f"].regions, ("align",))
        self.assertEqual(made.lines()[1], "free f in align align 4 fill 0 take a.b")
        self.wrong("free f in align 1 fill 0 take a.b", "free f in rom fill 0 take a.b", "free f in rom Ram align 1 fill 0 take a.b",
                   "free f at rom align 1 fill 0 take a.b", "free f in Rom align 1 fill 0 take a.b", "free f in rom align 1",
                   "free f in rom align 1 fills 0 take a.b",
                   "free f rom align 1 fill 0 take a.b", "free f in rom align 5 fill 0 take a.b",
                   "free f in rom align 1 fill 0 take", "free F in rom align 1 fill 0 take a.b", "free f in rom",
                   "free f in rom align align 1 fill 0 take a.b", "free f", "free f in")

    def test_overlays_and_parts(self):
        made = script("overlay load in ram load rom fill 65535", "part part align 16 take a.b *.*")
        self.assertEqual(made.lines()[3:], ["overlay load in ram load rom fill 65535", "part part align 16 take a.b *.*"])
        self.wrong("overlay o in ram load rom fill", "overlay o in ram load rom", "overlay o in ram fill 0",
                   "overlay o in ram load rom fill 65536", "overlay o in ram load rom fill 0 0",
                   "overlay o in ram load rom align 1", "overlay O in ram load rom fill 0", "overlay o ram load rom fill 0",
                   "overlay o in Ram load rom fill 0", "overlay o in ram load 1 fill 0",
                   "part p align 1 take", "part p align 1", "part p align 3 take a.b", "part P align 1 take a.b",
                   "part p fill 1 take a.b", "part p align 1 take a", "part p align 1 fill 0 take a.b", "part p", "part")

    def test_others(self):
        self.right("keep a.b", "let a be 1", "let be be 1", "claim 1", "claim not not 0")
        self.wrong("entry", "entry A", "entry a b", "keep", "keep a.b a.b", "let a be", "let a", "let a 1", "let A be 1",
                   "let a is 1", "let a be 1 +", "let a be A", "claim", "claim 1 <", "claim 1 < 2 < 3", "claim ( 1",
                   "claim 1000000001")
        self.right("claim " + " ".join(["-"] * 39 + ["1"]))
        self.wrong("claim " + " ".join(["-"] * 40 + ["1"]), "let a be " + " ".join(["-"] * 40 + ["1"]))
        self.right("let a be " + " ".join(["not"] * 39 + ["1"]))

    def test_first_of_several(self):
        self.fails(BadLine, 1, Script, [ENTRY, "x", "y"])
        self.fails(BadLine, 2, Script, [ENTRY, ENTRY, "y"])
        self.assertEqual(len(script(*["keep *.*"] * 8).statements), 11)


class Rules(Checks):
    def breaks(self, number, *lines):
        self.fails(BadStatement, number, Script, lines)

    def test_names(self):
        overlay = "overlay o in ram load rom fill 0"
        lines = [ROM, RAM, "place p in rom align 1 fill 0 take a.b", "free f in rom align 1 fill 0 take a.b", overlay,
                 "part q align 1 take a.b", "let a be 1", ENTRY]
        self.assertEqual(len(Script(lines).statements), 8)
        for name in ("rom", "ram", "p", "f", "o", "q", "a"):
            for line in ("region NAME rom 500 1", "place NAME in rom align 1 fill 0 take a.b", "let NAME be 1",
                         "free NAME in rom align 1 fill 0 take a.b", "overlay NAME in ram load rom fill 0"):
                self.breaks(8, *lines, line.replace("NAME", name))
        for name in ("rom", "ram", "p", "f", "o", "q"):
            self.breaks(6, *lines[:6], f"part {name} align 1 take a.b")
        self.assertEqual(Script(lines + ["let begin be 1"]).lets["begin"], ("number", 1))
        for word in "or and not mod home confirms start end size load base len used room at exported takes leaves kept".split():
            self.breaks(1, ENTRY, f"let {word} be 1")
            self.assertIn(word, Script([ENTRY, f"region {word} ram 5 5"]))
        Script([ENTRY, "let let be 1", "let be be 1", "let align be 1"])

    def test_rom_regions(self):
        for start, length in ((16, 1), (2047, 1), (16, 2032), (100, 1948)):
            Script([f"region a rom {start} {length}", ENTRY])
        for start, length in ((15, 1), (0, 5), (16, 0), (16, 2033), (2048, 0), (2048, 1), (2047, 2), (5000, 1)):
            self.breaks(0, f"region a rom {start} {length}", ENTRY)

    def test_ram_regions(self):
        for start, length in ((1, 1), (65534, 1), (1, 65534), (5, 65530)):
            Script([f"region a ram {start} {length}", ENTRY])
        for start, length in ((0, 1), (1, 0), (1, 65535), (65535, 0), (65535, 1), (65534, 2), (99999, 1)):
            self.breaks(0, f"region a ram {start} {length}", ENTRY)

    def test_regions_share_no_address(self):
        for kind in ("rom", "ram"):
            first = f"region a {kind} 100 50"
            for start, length in ((99, 1), (150, 1), (50, 50)):
                Script([first, f"region b {kind} {start} {length}", ENTRY])
            for start, length in ((99, 2), (149, 1), (100, 50), (120, 5), (50, 51), (50, 500)):
                self.breaks(1, first, f"region b {kind} {start} {length}", ENTRY)
        Script(["region a rom 100 50", "region b ram 100 50", ENTRY])
        self.breaks(2, "region a rom 100 50", "region b rom 200 50", "region c rom 120 100")

    def test_six_regions(self):
        rows = [f"region r{k} ram {k + 1} 1" for k in range(6)]
        Script(rows + [ENTRY])
        self.breaks(6, *rows, "region x rom 16 1", ENTRY)

    def test_regions_are_told_ahead(self):
        for line in ("place p in later align 1 fill 0 take a.b", "place p in ram load later align 1 fill 0 take a.b",
                     "place p in later load rom align 1 fill 0 take a.b", "free f in later align 1 fill 0 take a.b",
                     "free f in rom later align 1 fill 0 take a.b", "overlay o in later load rom fill 0",
                     "overlay o in ram load later fill 0"):
            self.breaks(2, ROM, RAM, line, "region later rom 500 5", ENTRY)
        Script([ROM, "claim len later", ENTRY, "region later ram 5 5"])

    def test_kinds_of_regions(self):
        head = [ROM, RAM, "region rom2 rom 500 5", "region ram2 ram 500 5", "region rom3 rom 600 5",
                "region rom4 rom 700 5", ENTRY]
        for line in ("place p in rom load rom2 align 1 fill 0 take a.b", "place p in ram load ram2 align 1 fill 0 take a.b",
                     "place p in rom load ram align 1 fill 0 take a.b", "place p in rom load rom align 1 fill 0 take a.b",
                     "free f in ram align 1 fill 0 take a.b", "free f in rom ram align 1 fill 0 take a.b",
                     "free f in rom rom align 1 fill 0 take a.b", "free f in rom rom2 rom align 1 fill 0 take a.b",
                     "free f in rom rom2 rom3 rom4 align 1 fill 0 take a.b",
                     "overlay o in rom load rom2 fill 0", "overlay o in ram load ram2 fill 0",
                     "overlay o in rom load ram fill 0"):
            self.breaks(7, *head, line, "part q align 1 take a.b")
        for line in ("place p in rom align 1 fill 0 take a.b", "place p in ram align 1 fill 0 take a.b",
                     "place p in ram2 load rom2 align 1 fill 0 take a.b",
                     "free f in rom rom2 rom3 align 1 fill 0 take a.b", "free f in rom4 align 1 fill 0 take a.b"):
            Script(head + [line])

    def test_parts(self):
        overlay = "overlay o in ram load rom fill 0"
        second = "overlay o2 in ram load rom fill 0"
        parts = [f"part q{k} align 1 take a.b" for k in range(9)]
        head = [ROM, RAM, ENTRY]
        Script(head + [overlay] + parts[:1])
        Script(head + [overlay] + parts[:4] + [second] + parts[4:8])
        self.breaks(8, *head, overlay, *parts[:5])
        self.breaks(3, *head, parts[0], overlay, parts[1])
        self.breaks(6, *head, overlay, parts[0], "claim 1", parts[1])
        self.breaks(4, *head, overlay, "claim 1", parts[1])
        self.breaks(4, *head, overlay, second, parts[1])
        self.breaks(4, *head, overlay)
        self.breaks(4, *head, overlay, "keep a.b")
        self.breaks(7, *head, overlay, parts[0], second, parts[1], "overlay o3 in ram load rom fill 0", parts[2])
        self.breaks(2, ROM, RAM, parts[0])

    def test_numbers_of_places(self):
        head = [ROM, RAM, ENTRY]
        places = [f"place p{k} in rom align 1 fill 0 take a.b" for k in range(11)]
        frees = [f"free f{k} in rom align 1 fill 0 take a.b" for k in range(6)]
        overlay = ["overlay o in ram load rom fill 0"] + [f"part q{k} align 1 take a.b" for k in range(4)]
        Script(head + places[:10])
        self.breaks(13, *head, *places)
        Script(head + frees[:5])
        self.breaks(8, *head, *frees)
        Script(head + frees[:5] + places[:1] + overlay)
        self.breaks(14, *head, *frees[:5], *overlay, *places[:2])
        self.breaks(14, *head, *frees[:5], *places[:2], *overlay)

    def test_numbers_of_patterns(self):
        for line in ("place p in rom align 1 fill 0 take", "free f in rom align 1 fill 0 take"):
            Script([ROM, ENTRY, line + " a.b" * 6])
            self.breaks(2, ROM, ENTRY, line + " a.b" * 7)
        head = [ROM, RAM, ENTRY, "overlay o in ram load rom fill 0"]
        Script(head + ["part p align 1 take" + " a.b" * 6])
        self.breaks(4, *head, "part p align 1 take" + " a.b" * 7)

    def test_entries_keeps_lets_claims(self):
        self.breaks(0)
        self.breaks(2, ROM, RAM)
        self.breaks(2, ROM, ENTRY, "entry other")
        self.breaks(1, ENTRY, ENTRY)
        for line, most in (("keep a.b", 8), ("claim 1", 16)):
            Script([ENTRY] + [line] * most)
            self.breaks(most + 1, ENTRY, *[line] * (most + 1))
        lets = [f"let l{k} be 1" for k in range(17)]
        Script([ENTRY] + lets[:16])
        self.breaks(17, ENTRY, *lets)

    def test_numbers_of_lines(self):
        lines = [f"region r{k} ram {k + 1} 1" for k in range(6)] + [ENTRY] + ["keep a.b"] * 8 + ["claim 1"] * 16
        lines += [f"let l{k} be 1" for k in range(16)] + ["region x rom 16 1"] * 17
        self.assertEqual(len(lines), 64)
        self.breaks(47, *lines)
        self.fails(BadLine, 63, Script, lines[:63] + ["x"])
        self.fails(TooMany, 64, Script, lines + ["x"])

    def test_first_of_several(self):
        self.breaks(1, ENTRY, "let or be x", "region a rom 0 0")
        self.breaks(1, ENTRY, "region a rom 0 0", "claim x")
        self.fails(BadLine, 2, Script, [ENTRY, "region a rom 0 0", "x"])
        self.breaks(1, "let a be a")


class Names(Checks):
    def test_unknown(self):
        head = [ROM, RAM, ENTRY, "place p in rom align 1 fill 0 take a.b", "free f in rom align 1 fill 0 take a.b",
                "overlay o in ram load rom fill 0", "part q align 1 take a.b", "let a be 1"]
        for word in ("start", "end", "size", "load"):
            for name in ("p", "f", "o", "q"):
                Script(head + [f"claim {word} {name}"])
            for name in ("rom", "ram", "a", "begin", "z"):
                self.fails(Unknown, name, Script, head + [f"claim {word} {name}"])
        for word in ("base", "len", "used", "room"):
            for name in ("rom", "ram"):
                Script(head + [f"claim {word} {name}"])
            for name in ("p", "f", "o", "q", "a", "begin", "z"):
                self.fails(Unknown, name, Script, head + [f"let b be {word} {name}"])
        for word in ("at", "exported", "takes", "leaves", "kept"):
            for name in ("rom", "p", "a", "begin", "z"):
                Script(head + [f"claim {word} {name}"])
        for name in ("rom", "p", "f", "o", "q", "begin", "z"):
            self.fails(Unknown, name, Script, head + [f"claim {name}"])
        Script(head + ["claim a", "claim start later", "place later in rom align 1 fill 0 take a.b"])

    def test_first_unknown(self):
        self.fails(Unknown, "y", Script, [ENTRY, "claim 1 + y * x", "let a be w"])
        self.fails(Unknown, "w", Script, [ENTRY, "let a be w", "claim 1 + y * x"])
        self.fails(Unknown, "z", Script, [ENTRY, "let b be b", "claim start z"])

    def test_rings(self):
        def ring(*lines):
            return Script([ENTRY, *lines])
        self.fails(Ring, ("a",), ring, "let a be a")
        self.fails(Ring, ("a", "b"), ring, "let b be a", "let a be b + 1")
        self.fails(Ring, ("c", "d"), ring, "let a be b", "let b be x", "let x be a", "let d be c", "let c be d")
        self.fails(Ring, ("a", "z"), ring, "let c be d", "let d be c", "let a be z", "let z be a")
        self.assertEqual(ring("let a be b", "let b be c + c", "let c be 1").lets["a"], ("let", "b"))


class Patterns(Checks):
    def test_fits(self):
        for pattern, told in (("a.b", True), ("*.b", True), ("a.*", True), ("*.*", True), ("*.[data]", True),
                              ("a.[data]", True), ("c.b", False), ("a.c", False), ("*.c", False), ("c.*", False),
                              ("*.[code]", False), ("c.[data]", False), ("b.a", False), ("*.data", False)):
            self.assertIs(fits(pattern, "a.b", "data"), told, pattern)
        for kind in ("code", "const", "data", "zero", "kept"):
            for other in ("code", "const", "data", "zero", "kept"):
                self.assertIs(fits(f"*.[{kind}]", "a.code", other), kind == other)
        self.assertIs(fits("*.code", "a.code", "data"), True)
        self.assertIs(fits("ab.c", "a.bc", "data"), False)


if __name__ == "__main__":
    unittest.main()
