"""Linked programs: contents, setups and maps, [13], [28] to [31]."""

import random
import unittest

from making import made_picked, row_of_events
from checks import Checks, cells, code, kept, unit

from romwright.lay import lay, layings
from romwright.link import link, Linked, linked_words, map_words, stretches
from romwright.machine import Board, Setup
from romwright.named import Lone
from romwright.pick import Archive, pick
from romwright.plain import Astray, BadHome, name_words
from romwright.script import Script
from romwright.units import Section, Unit

HALT = ("halt",)
WORK = ["region flash rom 16 200", "region work ram 1 60"]
TEXT = "place text in flash align 1 fill 7 take *.[code] *.[const]"
VARS = "place vars in work load flash align 1 fill 9 take *.*"


def made(lines, *units, home=1000, archives=()):
    return link(lay(pick(Script([*lines, "entry begin", "keep *.*"]), units, archives), home))


class Contents(Checks):
    def test_example(self):
        main = Section("main", "code", [("name", "count", 0), ("load",), ("out",), ("halt",)],
                       symbols=[("begin", 0, "global")])
        units = [Unit("app", [main, Section("store", "kept", [5], symbols=[("count", 0, "global")])])]
        lines = ["region flash rom 16 100", "region work ram 1 20", "place text in flash align 1 fill 0 take *.[code]",
                 "place vars in work load flash align 1 fill 0 take *.[kept]", "entry begin"]
        linked = link(lay(pick(Script(lines), units), 1000))
        self.assertEqual(linked.content, (256, 1, 2816, 5120, 6656, 5))
        self.assertEqual((linked.home, linked.entry, len(linked)), (1000, 1016, 6))
        self.assertEqual([linked[1016], linked[1021]], [256, 5])
        self.assertEqual([address in linked for address in (1015, 1016, 1021, 1022)], [False, True, True, False])
        for address in (1015, 1022, 0, 1, 65535):
            self.fails(Astray, address, linked.__getitem__, address)

    def test_each_instruction(self):
        items = [("push", 9), ("name", "v", 3), ("name", "v", 65534), ("far", "zz", "f", 1, 1), ("far", "aa", "f", 0, 0),
                 ("bring", "v"), ("go", "end"), ("unless", "begin"), ("call", "other"), ("dup",), ("confirm",), HALT]
        linked = made(WORK + [TEXT, VARS], unit("a", code("main", items, [("begin", 0), ("end", 11)]),
                                                code("x", [("ret",)], [("other", 0)]), cells("v", "data", [8], [("v", 0)])))
        want = [256, 9, 256, 4, 256, 65535, 22 * 256, 1, 22 * 256, 0, 23 * 256, 0, 13 * 256 + 4,
                15 * 256 + 256 - 14, 17 * 256 + 3, 512, 25 * 256, 26 * 256, 19 * 256, 8]
        self.assertEqual(list(linked.content), want)
        self.assertEqual(linked_words(linked.laying, 0), tuple(want[:18]))

    def test_wide_branches_and_veneers(self):
        lines = ["region low rom 16 90", "region high rom 120 90", "place one in low align 1 fill 0 take a.main a.fix",
                 "place two in high align 1 fill 0 take *.*"]
        main = code("main", [("call", "u"), ("unless", "f"), ("go", "begin")], [("begin", 0)])
        fixed = code("fix", [("unless", "v"), ("call", "u"), ("go", "v")], [("f", 1)], fixed=True)
        linked = made(lines, unit("a", main, fixed, code("out", [HALT, HALT], [("u", 0), ("v", 1)])), home=2000)
        self.assertEqual(linked.content[:4], (18 * 256, 2120, 15 * 256 + 2, 13 * 256 + 252))
        self.assertEqual(linked.content[4:11], (15 * 256 + 2, 17 * 256 + 3, 13 * 256 + 0, 27 * 256, 2121, 27 * 256, 2120))
        self.assertEqual(linked_words(linked.laying, 1), linked.content[4:11])
        self.assertEqual(linked.content[11:104], (65535,) * 93)
        self.assertEqual(linked.content[104:], (26 * 256, 26 * 256))
        self.assertEqual(stretches(linked.laying), [(2016, 2020, "a.main"), (2020, 2027, "a.fix"),
                                                    (2120, 2122, "a.out")])

    def test_fills_and_blanks(self):
        lines = ["region low rom 18 30", "region high rom 60 30", "region work ram 4 30",
                 "place one in low align 1 fill 7 take *.[code] a.c a.d",
                 "place two in work load high align 2 fill 8 take a.e a.f", "free fr in high align 8 fill 9 take a.g a.h"]
        rows = [cells("c", "const", [1], align=4), cells("d", "const", [], align=8), cells("e", "data", [2], align=2),
                cells("f", "zero", [0], align=4), cells("g", "const", [3]), cells("h", "const", [4], align=2)]
        linked = made(lines, unit("a", code("main", [HALT], [("begin", 0)]), *rows))
        # The last section of the first place has no words, but its place has them up to its end. The free place
        # begins at 1072, behind what is loaded at 1060.
        self.assertEqual(linked.laying.start_of("one"), 1024)
        self.assertEqual(list(linked.content[:8]), [65535] * 8)
        self.assertEqual(list(linked.content[8:16]), [6656, 7, 7, 7, 1, 7, 7, 7])
        self.assertEqual(list(linked.content[16:44]), [65535] * 28)
        self.assertEqual(list(linked.content[44:49]), [2, 8, 8, 8, 0])
        self.assertEqual(list(linked.content[49:56]), [65535] * 7)
        self.assertEqual(list(linked.content[56:]), [3, 9, 4])
        self.assertEqual(linked.setup.stretches[1:], ((4, (2,), True), (8, (0,), True)))
        self.assertEqual([row[:2] for row in stretches(linked.laying)],
                         [(1024, 1025), (1028, 1029), (1060, 1061), (1064, 1065), (1072, 1073), (1074, 1075)])

    def test_at_items(self):
        rows = [cells("c", "const", [("at", "d", 0), ("at", "d", 65535), ("at", "e", 3)], [("c", 0)]),
                cells("d", "data", [1, ("at", "c", 0)], [("d", 1)]), cells("e", "zero", [0, 0], [("e", 2)])]
        linked = made(WORK + [TEXT, VARS], unit("a", code("main", [HALT], [("begin", 0)]), *rows))
        self.assertEqual(linked.content, (6656, 2, 1, 8, 1, 1017, 0, 0))

    def test_addresses_are_words(self):
        main = code("main", [("name", "d", 65535), ("name", "d", 65534), ("name", "d", 40000), HALT], [("begin", 0)])
        linked = made(["region flash rom 16 200", "region work ram 30000 60", TEXT, VARS],
                      unit("a", main, cells("d", "data", [("at", "d", 50000)], [("d", 0)])))
        self.assertEqual(linked.content, (256, 29999, 256, 29998, 256, 4464, 6656, 14464))

    def test_empty_places_have_no_words(self):
        lines = ["region low rom 16 20", "region high rom 100 20", "region work ram 4 30", "place one in low align 1 fill 0 take a.main",
                 "place two in high align 8 fill 0 take a.c", "place vars in work load high align 8 fill 0 take a.d"]
        rows = [code("main", [HALT], [("begin", 0)]), cells("c", "const", [], align=16), cells("d", "data", [])]
        linked = made(lines, unit("a", *rows))
        self.assertEqual((linked.content, stretches(linked.laying)), ((6656,), [(1016, 1017, "a.main")]))
        self.assertEqual(linked.setup.stretches, ((1016, (6656,), False),))
        self.assertEqual(linked.laying.start_of("two"), 1100)

    def test_stretches_ascend(self):
        lines = ["region low rom 16 20", "region high rom 100 20", "place one in high align 1 fill 0 take a.*",
                 "place two in low align 1 fill 0 take b.*"]
        linked = made(lines, unit("a", code("main", [("ret",)], [("begin", 0)])), unit("b", cells("c", "const", [3])))
        self.assertEqual(stretches(linked.laying), [(1016, 1017, "b.c"), (1100, 1101, "a.main")])
        self.assertEqual((len(linked), linked[1016], linked[1100], linked[1099]), (85, 3, 19 * 256, 65535))

    def test_zero_places_are_in_no_content(self):
        lines = WORK + [TEXT, "place z in work align 1 fill 0 take *.[zero]"]
        linked = made(lines, unit("a", code("main", [HALT], [("begin", 0)]), cells("z", "zero", [0, 0])))
        self.assertEqual(linked.content, (6656,))
        self.assertEqual(linked.setup.stretches, ((1016, (6656,), False), (1, (0, 0), True)))
        self.assertEqual(stretches(linked.laying), [(1016, 1017, "a.main")])

    def test_equal(self):
        parts = unit("a", code("main", [HALT], [("begin", 0)]))
        one = made(WORK + [TEXT], parts)
        self.assertIsInstance(one, Linked)
        self.assertEqual(one, made(WORK[:1] + [TEXT], parts))
        self.assertNotEqual(one, made(WORK + [TEXT], parts, home=1001))
        self.assertNotEqual(one, made(WORK + [TEXT], unit("a", code("main", [HALT], [("begin", 0), ("b", 0)]))))
        self.assertFalse(one == one.content)


class Overlays(Checks):
    LINES = ["region flash rom 16 200", "region work ram 8 60", "place text in flash align 1 fill 7 take a.main",
             "overlay oa in work load flash fill 3", "part pa align 1 take a.one a.zero", "part pb align 4 take a.two",
             "overlay ob in work load flash fill 4", "part pc align 2 take a.six a.ten",
             "place vars in work load flash align 1 fill 0 take *.*"]

    def made(self, home=1000):
        main = code("main", [("bring", "two"), ("call", "two"), ("bring", "one"), ("call", "one"), ("bring", "six"),
                             ("bring", "begin"), HALT], [("begin", 0)])
        rows = [code("one", [("push", 1), ("out",), ("ret",)], [("one", 0)], [("one", 0, 0)]),
                cells("zero", "zero", [0, 0], [("z", 0)], align=8),
                code("two", [("push", 2), ("out",), ("ret",)], [("two", 0)]), cells("six", "data", [6], [("six", 0)]),
                cells("ten", "const", [10], align=4), kept("k", cell=5)]
        return made(self.LINES, unit("a", main, *rows), home=home)

    def test_words(self):
        linked = self.made()
        laying = linked.laying
        self.assertEqual([laying.start_of(name) for name in ("oa", "ob", "vars")], [8, 20, 25])
        self.assertEqual(linked.content[:13], (23 * 256, 2, 18 * 256, 8, 23 * 256, 1, 18 * 256, 8, 23 * 256, 3,
                                               23 * 256, 0, 6656))
        self.assertEqual(linked.content[13:], (256, 1, 5120, 4864, 3, 3, 3, 3, 0, 0, 256, 2, 5120, 4864,
                                               6, 4, 4, 4, 10, 5))
        self.assertEqual([row[2] for row in stretches(laying)],
                         ["a.main", "a.one", "a.zero", "a.two", "a.six", "a.ten", "a.k"])

    def test_setup(self):
        linked = self.made()
        self.assertEqual(linked.setup, Setup(
            [(1016, linked.content, False), (25, (5,), True)], 1016, exports=[("one", 0, 0, 8)],
            cells=[("cell", 25)], parts=[(0, [(8, (256, 1, 5120, 4864), False), (16, (0, 0), True)]),
                                         (0, [(8, (256, 2, 5120, 4864), False)]),
                                         (1, [(20, (6,), True), (24, (10,), False)])]))

    def test_runs(self):
        board = Board(self.made().setup)
        self.assertEqual(board.meet(("start",)), (("print", 2), ("print", 1), ("done",)))
        self.assertEqual(board.meet(("call", "one", ())), (("print", 1), ("back", ())))

    def test_parts_of_the_map(self):
        self.assertEqual(self.made().map[-14:], (0, 3, 0, 1029, 8, 10, 0, 1039, 8, 4, 1, 1043, 20, 5))


class Setups(Checks):
    def test_order_of_the_program(self):
        lines = WORK + ["place late in work load flash align 1 fill 0 take b.*", TEXT, VARS]
        main = code("main", [("far", "zz", "q", 0, 0), ("far", "aa", "q", 0, 0), HALT], [("begin", 0), ("y", 1)],
                    [("y", 2, 1), ("begin", 0, 0)])
        linked = made(lines, unit("a", main, kept("k", zz=1, aa=2), cells("d", "data", [3])),
                      unit("b", cells("z", "zero", [0]), cells("e", "data", []), cells("c", "const", [4])))
        setup = linked.setup
        self.assertEqual(setup.stretches, ((1016, linked.content, False), (3, (1, 2), True), (5, (3,), True),
                                           (1, (0,), True), (2, (4,), False)))
        self.assertEqual(setup.exports, (("begin", 0, 0, 1016), ("y", 2, 1, 1018)))
        self.assertEqual(setup.wants, (("aa", "q", 0, 0), ("zz", "q", 0, 0)))
        self.assertEqual(setup.cells, (("aa", 4), ("zz", 3)))
        self.assertEqual((setup.entry, setup.parts), (1016, ()))

    def test_code_in_ram(self):
        lines = WORK + ["place text in flash align 1 fill 0 take a.*", "place fast in work load flash align 1 fill 0 take *.*"]
        fixed = code("f", [("call", "back"), ("ret",)], [("f", 0)], fixed=True)
        linked = made(lines, unit("a", code("main", [("call", "f"), HALT], [("begin", 0)]), code("b", [("ret",)], [("back", 0)])),
                      unit("b", fixed))
        self.assertEqual(linked.setup.stretches[1:], ((1, (17 * 256 + 1, 19 * 256, 27 * 256, 1019), False),))
        self.assertEqual(linked.content, (18 * 256, 1, 6656, 19 * 256, 17 * 256 + 1, 19 * 256, 27 * 256, 1019))
        board = Board(linked.setup)
        self.assertEqual(board.meet(("start",)), (("done",),))
        lone = Lone(linked.laying.picked.program)
        lone.meet(("start",))
        self.assertEqual(board.steps, lone.steps)

    def test_words_between_sections_are_no_memory(self):
        lines = WORK + [TEXT, "place vars in work load flash align 1 fill 0 take *.*"]
        rows = [cells("d", "data", [1]), cells("e", "data", [2], align=4)]
        main = code("main", [("push", 2), ("load",), HALT], [("begin", 0)])
        self.assertEqual(Board(made(lines, unit("a", main, *rows)).setup).meet(("start",)), (("fault", "astray"),))

    def test_boards_tell_what_lone_devices_tell(self):
        seen = {}
        for seed in range(190):
            # The last programs are long: they have wide branches and veneers.
            _, _, _, picked = made_picked(seed, seed >= 150)
            rng = random.Random(seed)
            device = Lone(picked.program, limit=rng.choice([None, 60]))
            events, told = row_of_events(device, rng, 8)
            hangs = told[-1][-1] == ("hangs",)
            if hangs:
                events, told = events[:-1], told[:-1]
            for home in (rng.choice([5000, 20001]), 63487):
                try:
                    rows = list(layings(picked, home))
                except BadHome:
                    continue
                for laying in rng.sample(rows, min(2, len(rows))):
                    board = Board(link(laying).setup, limit=device.limit)
                    self.assertEqual([board.meet(event) for event in events], told)
                    if not hangs:
                        self.assertEqual(board.steps, device.steps)
            seen[told[-1][-1][0] if told else "hangs"] = True
        self.assertLessEqual({"asks", "far", "done", "fault", "late", "hangs"}, set(seen))


class Maps(Checks):
    def test_each_kind_of_word(self):
        lines = WORK + [TEXT, VARS]
        main = code("main", [("far", "peer", "f", 2, 1), ("name", "d", 7), ("bring", "loc"), ("call", "loc"), HALT],
                    [("begin", 0), ("w", 4, "weak"), ("loc", 1, "local")], [("begin", 1, 2)], align=2, fixed=True)
        other = cells("d", "data", [4, ("at", "d", 3)], [("d", 2)], align=16)
        linked = made(lines, unit("a", main, other), unit("b", cells("z", "zero", [0, 0, 0], [("w", 1, "weak")])))
        words = [3]
        words += name_words("a") + name_words("main") + (0 + 8 + 64, 1016, 1016, 5, 8, 0, 3, 1, 3)
        words += name_words("begin") + (0, 1) + name_words("loc") + (1, 0) + name_words("w") + (4, 2)
        words += name_words("begin") + (6,)
        words += (1,) + name_words("d") + (7, 2) + name_words("loc") + (0, 3) + name_words("loc") + (0,)
        words += name_words("a") + name_words("d") + (2 + 32, 16, 1024, 2, 2, 0, 1, 0, 1)
        words += name_words("d") + (2, 1, 1) + name_words("d") + (3,)
        # The weak symbol of b is hidden.
        words += name_words("b") + name_words("z") + (3, 18, 1026, 3, 3, 0, 0, 0, 0)
        words += (1,) + name_words("peer") + name_words("f") + (9, 0)
        self.assertEqual(linked.map, tuple(words))
        self.assertEqual(map_words(linked.laying), tuple(words))

    def test_veneers_count_as_words_and_hidden_exports_do_not_count(self):
        lines = ["region flash rom 16 200", "place one in flash align 1 fill 0 take a.*",
                 "place two in flash align 1 fill 0 take *.*"]
        first = code("main", [("call", "x"), ("call", "y"), HALT], [("begin", 0)], fixed=True)
        lib = Archive("lib", [unit("z", code("c", [("ret",)], [("x", 0), ("y", 0)], [("x", 0, 0), ("y", 1, 1)]))])
        linked = made(lines, unit("a", first), unit("b", code("d", [("ret",)], [("x", 0, "weak")])), archives=[lib])
        words = (3,) + name_words("a") + name_words("main") + (64, 1016, 1016, 3, 7, 0, 1, 0, 2)
        words += name_words("begin") + (0, 1, 0) + name_words("x") + (0, 1) + name_words("y") + (0,)
        words += name_words("b") + name_words("d") + (0, 1023, 1023, 1, 1, 0, 1, 0, 0) + name_words("x") + (0, 2)
        words += name_words("z") + name_words("c") + (0, 1024, 1024, 1, 1, 0, 1, 1, 0) + name_words("y") + (0, 1)
        words += name_words("y") + (5, 0, 0)
        self.assertEqual(linked.map, words)
        self.assertEqual(linked.setup.exports, (("y", 1, 1, 1024),))


if __name__ == "__main__":
    unittest.main()
