"""Maps, and contents that are read back with them: [6], [31], [32]."""

import unittest

from making import made_picked
from checks import Checks, cells, code, kept, unit

from romwright.lay import lay, layings
from romwright.link import link
from romwright.maps import line_at, listing, Map, MapEntry, read_back, read_map, setup_of
from romwright.pick import Archive, pick
from romwright.plain import BadContent, BadMap, name_words
from romwright.script import Script

HALT = ("halt",)
LINES = ["region flash rom 16 300", "region work ram 1 90", "place text in flash align 1 fill 7 take a.*",
         "overlay oa in work load flash fill 3", "part pa align 1 take b.one b.z", "part pb align 4 take b.two",
         "place other in flash align 2 fill 8 take c.*", "place vars in work load flash align 4 fill 9 take d.*",
         "entry begin", "keep *.*"]


def units():
    main = code("main", [("push", 9), ("name", "d", 7), ("far", "peer", "f", 2, 1), ("bring", "two"), ("call", "far2"),
                         ("unless", "loc"), ("go", "loc"), HALT],
                [("begin", 0), ("w", 7, "weak"), ("loc", 1, "local"), ("late", 5)], [("begin", 1, 2), ("late", 0, 1)], align=2)
    fixed = code("fix", [("call", "far2"), ("call", "two"), ("ret",)], [("fix", 2)], fixed=True)
    one = code("one", [("dup",), ("go", "one")], [("one", 0)])
    two = code("two", [("call", "far2"), ("ret",)], [("two", 0)])
    return [unit("a", main, fixed), unit("b", one, cells("z", "zero", [0, 0], [("z", 2)]), two),
            unit("c", code("far2", [("ret",)], [("far2", 0)]), cells("k", "const", [3, ("at", "d", 5)], align=4)),
            unit("d", cells("d", "data", [4, ("at", "z", 65535), 6], [("d", 1), ("e", 3, "local")]), kept("k", zz=1, aa=2),
                 cells("z", "zero", [0], [("w", 0, "weak")]))]


def linked(home=1000):
    return link(lay(pick(Script(LINES), units()), home))


def changed(words, place, word):
    return words[:place] + (word,) + words[place + 1:]


class Maps(Checks):
    def test_what_it_tells(self):
        made = linked()
        told = read_map(made.map)
        self.assertIsInstance(told, Map)
        self.assertIsInstance(told.sections[0], MapEntry)
        laying, program = made.laying, made.laying.picked.program
        self.assertEqual([each.name for each in told.sections], [each.name for each in program])
        self.assertEqual(told.wants, (("peer", "f", 2, 1),))
        self.assertEqual(told.parts, ((0, laying.load_of("pa"), 4, 4), (0, laying.load_of("pb"), 4, 3)))
        for number, (entry, section) in enumerate(zip(told.sections, program)):
            self.assertEqual((entry.kind, entry.align, entry.count), (section.kind, section.align, len(section.body)))
            self.assertIs(entry.fixed, section.fixed)
            self.assertEqual((entry.run, entry.load), (laying.address(number, 0), laying.at_load(number)))
        self.assertEqual([each.part for each in told.sections], [0, 0, 1, 1, 2, 0, 0, 0, 0, 0])
        self.assertEqual([each.size for each in told.sections], [13, 7, 2, 2, 3, 1, 2, 3, 2, 1])

    def test_symbols_exports_references(self):
        main, fixed, _, zero, two, _, const, data, cell, last = read_map(linked().map).sections
        self.assertEqual(main.symbols, (("begin", 0, "global"), ("loc", 1, "local"), ("late", 5, "global"), ("w", 7, "weak")))
        self.assertEqual(main.exports, (("begin", 1, 2), ("late", 0, 1)))
        self.assertEqual(main.references, ((1, "d", 7), (3, "two", 0), (4, "far2", 0), (5, "loc", 0), (6, "loc", 0)))
        self.assertEqual((fixed.fixed, fixed.references), (True, ((0, "far2", 0), (1, "two", 0))))
        self.assertEqual((zero.symbols, zero.references, zero.exports), ((("z", 2, "global"),), (), ()))
        self.assertEqual((two.references, const.references, data.references),
                         (((0, "far2", 0),), ((1, "d", 5),), ((1, "z", 65535),)))
        self.assertEqual(cell.symbols, (("zz", 0, "global"), ("aa", 1, "global")))
        # The weak symbol of d is hidden.
        self.assertEqual(last.symbols, ())

    def test_cut_off(self):
        """A map that ends early: a count is too great for what is behind it, or there are too few words."""
        words = linked().map
        last = None
        for length in range(len(words)):
            with self.assertRaises(BadMap) as caught:
                read_map(words[:length])
            self.assertLessEqual(caught.exception.place, length)
            self.assertTrue(last is None or caught.exception.place >= last)
            last = caught.exception.place
        self.fails(BadMap, 0, read_map, ())
        self.fails(BadMap, 0, read_map, (5, 1, 1, 1))
        short = link(lay(pick(Script(LINES[:3] + ["entry begin"]), [unit("a", code("c", [HALT], [("begin", 0)]))]), 100)).map
        self.assertEqual(len(short), 1 + 6 + 9 + 5 + 2)
        # In a name, in plain words; behind a count that is too great.
        expect = {0: 0, 1: 0, 2: 2, 3: 3, 6: 6, 7: 7, 8: 8, 12: 12, 13: 13, 14: 13, 15: 15, 16: 16, 17: 17, 20: 20, 21: 21, 22: 22}
        for length, place in expect.items():
            self.fails(BadMap, place, read_map, short[:length])

    def test_words_behind_the_end(self):
        words = linked().map
        self.fails(BadMap, len(words), read_map, words + (0,))
        self.fails(BadMap, len(words), read_map, words + (0, 1, 2))

    def test_wrong_words(self):
        words = link(lay(pick(Script(LINES[:2] + [LINES[2], "place rest in flash align 1 fill 0 take *.*", "entry begin"]), [
            unit("a", code("c", [("far", "p", "q", 1, 0), ("go", "begin")], [("begin", 1)], [("begin", 2, 2)]))]), 100)).map
        self.assertEqual(len(words), 1 + 6 + 9 + 5 + 4 + 5 + 1 + 7 + 1)
        read_map(words)
        bad_name = 37 * 1600
        for place in (1, 4, 16, 21, 26, 31, 34):
            self.fails(BadMap, place, read_map, changed(words, place, bad_name))
            self.fails(BadMap, place, read_map, changed(words, place + 2, 1))
            self.fails(BadMap, place, read_map, changed(words, place, 0))
        for place in (0, 13, 14, 15, 30, 38):
            self.fails(BadMap, place, read_map, changed(words, place, len(words) - place))
            self.fails(BadMap, place, read_map, changed(words, place, 65535))
        for word in (5, 6, 7, 40, 48, 56, 65, 66, 67, 68, 128, 65535):
            self.fails(BadMap, 7, read_map, changed(words, 7, word))
        for word in (1, 2, 3, 4, 8, 32, 36, 64, 96):
            self.assertEqual(read_map(changed(words, 7, word)).sections[0].align, 2 ** (word // 8 % 8))
        for word in (3, 4, 65535):
            self.fails(BadMap, 20, read_map, changed(words, 20, word))
        for place in (24, 37):
            for word in (3, 7, 11, 12, 16, 65535):
                self.fails(BadMap, place, read_map, changed(words, place, word))
        self.assertEqual(read_map(changed(words, 24, 9)).sections[0].exports, (("begin", 2, 1),))
        # Every word can be an address, a number of items or of words, a place, a number in bring, a k.
        for place in (8, 9, 10, 11, 12, 19, 25, 29):
            for word in (0, 65535):
                read_map(changed(words, place, word))


class Back(Checks):
    def test_units(self):
        for home in (1000, 5555):
            made = linked(home)
            self.assertEqual(read_back(home, made.content, made.map), made.laying.picked.kept_units())
            self.assertEqual(setup_of(home, made.content, made.map, made.entry), made.setup)

    def test_by_chance(self):
        for seed in range(90):
            script, _, _, picked = made_picked(seed, seed >= 80)
            for laying in list(layings(picked, 5000))[:2]:
                made = link(laying)
                self.assertEqual(read_back(5000, made.content, made.map), picked.kept_units())
                self.assertEqual(setup_of(5000, made.content, made.map, made.entry), made.setup)
                again = pick(script, read_back(5000, made.content, made.map))
                same = [each for each in layings(again, 5000)
                        if each.packing.dealing == laying.packing.dealing and each.packing.orders == laying.packing.orders]
                self.assertEqual(link(same[0]), made)

    def test_hidden_symbols_and_archives(self):
        lib = Archive("lib", [unit("z", code("c", [("ret",)], [("x", 0), ("y", 0)], [("x", 0, 0), ("y", 1, 1)]))])
        lines = ["region flash rom 16 300", "place text in flash align 1 fill 7 take *.*", "entry begin"]
        made = link(lay(pick(Script(lines), [unit("a", code("m", [("call", "y"), HALT], [("begin", 0)])),
                                             unit("b", code("d", [("ret",)], [("x", 0)]))], [lib]), 1000))
        self.assertEqual(read_back(1000, made.content, made.map), [
            unit("a", code("m", [("call", "y"), HALT], [("begin", 0)])),
            unit("z", code("c", [("ret",)], [("y", 0)], [("y", 1, 1)]))])

    def test_map_errors_first(self):
        made = linked()
        for call in (lambda words: read_back(1000, (), words), lambda words: setup_of(1000, (), words, 1016),
                     lambda words: line_at(1000, (), words, 1016)):
            self.fails(BadMap, len(made.map), call, made.map + (1,))
            self.fails(BadMap, 0, call, ())
            self.fails(BadContent, 1016, call, made.map)

    def test_contents_that_are_too_short(self):
        made = linked()
        laying = made.laying
        for length in range(len(made.content)):
            outside = [laying.at_load(number) + place for number, entry in enumerate(read_map(made.map).sections)
                       for place in range(entry.size) if laying.at_load(number) + place >= 1016 + length]
            self.fails(BadContent, outside[0], read_back, 1000, made.content[:length], made.map)
            self.fails(BadContent, outside[0], setup_of, 1000, made.content[:length], made.map, made.entry)
            self.fails(BadContent, outside[0], line_at, 1000, made.content[:length], made.map, 1016)
        # At another home nothing is where it should be.
        self.fails(BadContent, 1016, read_back, 2000, made.content, made.map)

    def test_words_that_are_no_instructions(self):
        made = linked()
        push, far, call, last = 1016, 1020, 1024, 1016 + 13 - 1
        for address, wrong in ((push, 0), (push, 257), (push, 28 * 256), (push, 27 * 256), (push, 65535), (far, 21 * 256 + 5),
                               (last, 2 * 256), (last, 26 * 256 + 1), (push, 14 * 256), (push, 23 * 256), (push, 19 * 256)):
            content = changed(made.content, address - 1016, wrong)
            if wrong == 19 * 256:
                # What follows is no instruction then.
                address = 1017
            self.fails(BadContent, address, read_back, 1000, content, made.map)
            self.fails(BadContent, address, line_at, 1000, content, made.map, 1)
            self.fails(BadContent, address, setup_of, 1000, content, made.map, made.entry)
        # A number of no want.
        self.fails(BadContent, far, read_back, 1000, changed(made.content, far + 1 - 1016, 1), made.map)
        self.assertEqual(made.content[call - 1016] // 256, 18)
        # A number of no part.
        self.assertEqual(made.content[call - 1018:call - 1016], (23 * 256, 2))
        self.fails(BadContent, call - 2, read_back, 1000, changed(made.content, call - 1017, 3), made.map)
        # Where a veneer stands, there is nothing but a hop.
        veneer = made.laying.address(1, 3)
        self.assertEqual(made.content[veneer - 1016], 27 * 256)
        self.fails(BadContent, veneer, read_back, 1000, changed(made.content, veneer - 1016, 26 * 256), made.map)

    def test_instructions_that_leave_their_section(self):
        lines = ["region flash rom 16 300", "place text in flash align 1 fill 7 take *.*", "entry begin", "keep *.*"]
        made = link(lay(pick(Script(lines), [unit("a", code("c", [("dup",), HALT], [("begin", 0)]), code("d", [HALT]))]), 1000))
        self.assertEqual(made.content, (512, 6656, 6656))
        # The first one has two words now, so the second one lies behind the end of its section.
        self.fails(BadContent, 1018, read_back, 1000, (256, 6656, 6656), made.map)

    def test_veneers_stand_in_fixed_sections_alone(self):
        lines = ["region flash rom 16 300", "place text in flash align 1 fill 7 take *.*", "entry begin"]
        made = link(lay(pick(Script(lines), [unit("a", code("c", [("dup",), HALT], [("begin", 0)]))]), 1000))
        longer = changed(made.map, 11, 4)
        content = (512, 6656, 27 * 256, 5)
        self.assertEqual(read_map(longer).sections[0].size, 4)
        self.fails(BadContent, 1018, read_back, 1000, content, longer)
        fixed = changed(longer, 7, 64)
        self.assertEqual(read_back(1000, content, fixed), [unit("a", code("c", [("dup",), HALT], [("begin", 0)], fixed=True))])
        self.fails(BadContent, 1019, read_back, 1000, content[:3], fixed)
        self.fails(BadContent, 1018, read_back, 1000, (512, 6656, 26 * 256, 5), fixed)

    def test_maps_that_break_the_rules_of_sections(self):
        made = linked()
        entries = read_map(made.map).sections
        begins = [1]
        for entry in entries:
            begins.append(begins[-1] + 15 + 5 * len(entry.symbols) + 4 * len(entry.exports) + 5 * len(entry.references))
        for number, place, word in ((0, 10, 0), (2, 10, 200), (0, 18, 8), (7, 18, 9), (8, 18, 1), (3, 10, 3)):
            # The number of items, or the place of the first symbol.
            wrong = changed(made.map, begins[number] + (9 if place == 10 else place), word)
            with self.assertRaises((BadMap, BadContent)):
                read_back(1000, made.content, wrong)
        # No instructions; a number in bring that is none; a reference where there is nothing to refer with.
        self.fails(BadMap, begins[5], read_back, 1000, made.content, changed(changed(made.map, begins[5] + 9, 0), begins[5] + 10, 0))
        for part, call in ((3, read_back), (65535, lambda *told: setup_of(*told, 1016))):
            self.fails(BadMap, begins[0], call, 1000, made.content, changed(made.map, begins[0] + 11, part))
        reference = begins[1] + 15 + 5
        self.assertEqual(made.map[reference:reference + 4], (0,) + name_words("far2"))
        self.fails(BadContent, made.laying.address(1, 0), read_back, 1000, made.content, changed(made.map, reference, 2))
        data = begins[7] + 15 + 10
        self.assertEqual(made.map[data:data + 4], (1,) + name_words("z"))
        self.fails(BadMap, begins[7], read_back, 1000, made.content, changed(made.map, data, 3))
        # Two sections of one name, in one unit; a symbol that is defined twice.
        second = begins[1] + 3
        twice = made.map[:second] + name_words("main") + made.map[second + 3:]
        self.fails(BadMap, begins[1], read_back, 1000, made.content, twice)
        second = begins[1] + 15
        twice = made.map[:second] + name_words("begin") + made.map[second + 3:]
        self.fails(BadMap, begins[1], read_back, 1000, made.content, twice)
        # An export of a symbol that is not there.
        export = begins[0] + 15 + 20
        wrong = made.map[:export] + name_words("none") + made.map[export + 3:]
        self.fails(BadMap, 1, read_back, 1000, made.content, wrong)


class Lines(Checks):
    def test_listing(self):
        lines = ["region flash rom 16 90", "region work ram 5 50", "place one in flash align 1 fill 7 take a.main",
                 "place vars in work load flash align 1 fill 0 take a.d a.z", "place more in flash align 4 fill 0 take a.*",
                 "place zeros in work align 1 fill 0 take b.*", "entry begin", "keep *.*"]
        main = code("main", [("name", "d", 2), ("unless", "sub"), ("call", "under"), ("go", "begin")], [("begin", 0)],
                    fixed=True)
        sub = code("sub", [("far", "p", "q", 0, 2), ("ret",)], [("sub", 1), ("under", 0)])
        rows = [unit("a", main, cells("d", "data", [7, ("at", "sub2", 3)], [("d", 0)]), cells("z", "zero", [0, 0]), sub,
                     cells("k", "const", [1], [("sub2", 1)], align=4)), unit("b", cells("z", "zero", [0]))]
        made = link(lay(pick(Script(lines), rows), 1000))
        self.assertEqual(listing(made), [
            "1016 256,7 a.main 0 name d 2", "1018 3842 a.main 1 unless sub", "1019 4355 a.main 2 call under",
            "1020 3579 a.main 3 go begin", "1021 6912,1030 a.main - hop a.sub 1", "1023 6912,1028 a.main - hop a.sub 0",
            "1028 5632,0 a.sub 0 far p q 0 2", "1030 4864 a.sub 1 ret", "1032 1 a.k 0 word 1",
            "1033 7 a.d 0 word 7", "1034 1036 a.d 1 at sub2 3", "1035 0 a.z 0 word 0", "1036 0 a.z 1 word 0"])

    def test_by_chance(self):
        for seed in range(30):
            _, _, _, picked = made_picked(seed)
            laying = list(layings(picked, 5000))[0]
            made = link(laying)
            rows = [line.split(" ") for line in listing(made)]
            self.assertEqual([int(row[0]) for row in rows], sorted(int(row[0]) for row in rows))
            for row in rows:
                for offset, word in enumerate(row[1].split(",")):
                    self.assertEqual(made[int(row[0]) + offset], int(word))
            count = sum(len(each.body) for each, where in zip(picked.program, picked.where)
                        if each.kind != "zero" or picked.script[where].__class__.__name__ == "Part"
                        or picked.script[where].load is not None)
            self.assertEqual(len([row for row in rows if row[3] != "-"]), count)

    def test_line_at(self):
        made = linked()
        laying, program = made.laying, made.laying.picked.program

        def told(address):
            return line_at(1000, made.content, made.map, address)

        self.assertEqual([told(1016 + offset) for offset in range(6)],
                         [("a.main", 0), None, ("a.main", 1), None, ("a.main", 2), None])
        for number, section in enumerate(program):
            starts = [laying.address(number, place) for place in range(len(section.body))]
            for place, address in enumerate(starts):
                if section.name != "b.two":
                    self.assertEqual(told(address), (section.name, place))
        # Overlays: of the sections that run there, the first one of the map for which something begins there.
        self.assertEqual([told(address) for address in (4, 5, 6, 7)],
                         [("b.one", 0), ("b.one", 1), ("b.z", 0), ("b.z", 1)])
        # Veneers, fills and what is beside everything.
        for address in (1029 + 3, 1000, 0, 65535, laying.load_of("vars"), laying.load_of("pa")):
            self.assertIsNone(told(address))
        self.assertEqual(told(laying.start_of("vars")), ("d.d", 0))


if __name__ == "__main__":
    unittest.main()
