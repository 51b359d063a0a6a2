"""Programs laid at a home: [18], [25] to [27]."""

import itertools
import unittest

from making import made_picked
from checks import Checks, cells, code, unit

from romwright.lay import first_unkept, holds, lay, Laying, layings, least_machines
from romwright.pick import Archive, pick
from romwright.plain import BadHome, CannotKeep, NoFit, NoName
from romwright.script import Script

HALT = ("halt",)


def fill(name, words, **more):
    return cells(name, "const", [0] * words, **more)


def picked(lines, *sections, entry=True, archives=()):
    """What is picked for a script with these sections in unit u, and a main of two words that goes to its end."""
    main = code("main", [("push", 1), ("ret",)], [("begin", 0), ("last", 1, "weak")], [("begin", 0, 0)])
    return pick(Script([*lines, "entry begin", "keep u.*"]), [unit("app", main), unit("u", *sections)], archives)


def told(laying):
    return (laying.packing.dealing, laying.packing.orders, laying.lengths, laying.words)


MAIN = "place text in flash align 1 fill 0 take app.*"


class Regions(Checks):
    LINES = ["region flash rom 20 100", "region spare rom 200 50", "region work ram 3 60", MAIN,
             "place vars in work load spare align 1 fill 0 take u.v",
             "overlay over in work load flash fill 0", "part one align 4 take u.one", "part two align 2 take u.two u.six",
             "place zeros in work align 8 fill 0 take u.z",
             "free fr in spare flash align 4 fill 0 take u.fr", "place more in flash align 2 fill 0 take u.m"]

    def made(self):
        return picked(self.LINES, cells("v", "data", [1, 2, 3, 4, 5]), fill("one", 3), fill("two", 7),
                      cells("six", "zero", [0]), cells("z", "zero", [0] * 4), fill("fr", 2), fill("m", 5))

    def test_where_everything_lies(self):
        one, two = layings(self.made(), 1000)
        self.assertEqual([one.start_of("text"), one.end_of("text")], [1020, 1023])
        self.assertEqual([one.start_of("more"), one.end_of("more"), one.load_of("more")], [1024, 1029, 1024])
        # Loaded from flash behind what runs there, without alignment: the parts.
        self.assertEqual([one.load_of("one"), one.load_of("two"), one.load_of("over")], [1029, 1032, 1029])
        self.assertEqual([one.start_of("vars"), one.load_of("vars"), one.size_of("vars")], [3, 1200, 5])
        self.assertEqual([one.start_of(name) for name in ("over", "one", "two")], [8, 8, 8])
        self.assertEqual([one.end_of(name) for name in ("over", "one", "two")], [16, 11, 16])
        self.assertEqual([one.size_of(name) for name in ("over", "one", "two")], [8, 3, 8])
        self.assertEqual([one.start_of("zeros"), one.load_of("zeros")], [16, 16])
        self.assertEqual([one.start_of("fr"), two.start_of("fr")], [1208, 1040])
        self.assertEqual([one.used_of("flash"), one.used_of("spare"), one.used_of("work")], [20, 10, 17])
        self.assertEqual((one.lengths, one.words), ((20, 10, 17), 47))
        self.assertEqual((two.lengths, two.words), ((22, 5, 17), 44))
        self.assertEqual(told(lay(self.made(), 1000)), told(two))

    def test_overlays_have_the_greatest_alignment_of_their_parts(self):
        lines = ["region flash rom 16 100", "region work ram 3 60", MAIN, "overlay over in work load flash fill 0",
                 "part one align 2 take u.one", "part two align 1 take u.two", "part six align 16 take u.six"]
        made = picked(lines, fill("one", 3), fill("two", 1, align=8), cells("six", "zero", []))
        one = lay(made, 1000)
        # The part without words has alignment 1.
        self.assertEqual([one.start_of(name) for name in ("over", "one", "two", "six")], [8, 8, 8, 8])
        self.assertEqual((one.used_of("work"), one.used_of("flash")), (8, 7))

    def test_names(self):
        one = lay(self.made(), 1000)
        for name in ("flash", "begin", "u", "none"):
            for method in (one.start_of, one.end_of, one.size_of, one.load_of, one.shape_of):
                self.fails(NoName, name, method, name)
        self.fails(NoName, "over", one.shape_of, "over")
        for name in ("text", "over", "one", "fr", "none"):
            self.fails(NoName, name, one.used_of, name)

    def test_addresses(self):
        made = self.made()
        one = lay(made, 1000)
        program = made.program
        self.assertEqual([one.address(program["app.main"], place) for place in (0, 1)], [1020, 1022])
        self.assertEqual([one.address(program["u.v"], place) for place in (0, 4, 5)], [3, 7, 8])
        self.assertEqual([one.address(program["u.six"], place) for place in (0, 1)], [15, 16])
        self.assertEqual([one.at_load(program[name]) for name in ("app.main", "u.v", "u.six", "u.two", "u.z", "u.fr")],
                         [1020, 1200, 1039, 1032, 16, 1040])

    def test_shapes(self):
        one = lay(self.made(), 1000)
        shape = one.shape_of("two")
        self.assertEqual((shape.sizes, shape.size, shape.align, shape.rounds), ((7, 1), 8, 2, {}))
        shape.rounds[(0, 0)] = 5
        self.assertEqual(one.shape_of("two").rounds, {})
        self.assertEqual((one.picked.script, one.home), (Script(self.LINES + ["entry begin", "keep u.*"]), 1000))

    def test_home_moves_rom_alone(self):
        one, two = lay(self.made(), 1000), lay(self.made(), 1004)
        self.assertEqual(two.start_of("text") - one.start_of("text"), 4)
        self.assertEqual(two.start_of("vars"), one.start_of("vars"))
        self.assertEqual(two.load_of("vars") - one.load_of("vars"), 4)

    def test_places_by_chance(self):
        for seed in range(40):
            script, _, _, made = made_picked(seed)
            for laying in itertools.islice(layings(made, 5000), 8):
                self.check(script, laying)

    def check(self, script, laying):
        """What lies in a region shares no address and stays within; what is used of it is up to the last end."""
        for region, used in zip(script.regions, laying.lengths):
            base = region.start + (5000 if region.kind == "rom" else 0)
            rows = []
            for each in [*script.places, *script.overlays]:
                part = each.__class__.__name__ == "Part"
                first, size, load = (f(each.name) for f in (laying.start_of, laying.size_of, laying.load_of))
                if not part and base <= first < base + region.length and size > 0:
                    rows.append((first, first + size))
                loaded = load != first and each not in script.overlays
                if loaded and base <= load < base + region.length and size > 0:
                    rows.append((load, load + size))
            rows.sort()
            self.assertTrue(all(one[1] <= other[0] for one, other in zip(rows, rows[1:])))
            self.assertEqual(max([base] + [row[1] for row in rows]), base + used)
            self.assertEqual(laying.used_of(region.name), used)
        self.assertEqual(laying.words, sum(laying.lengths))


class Fits(Checks):
    def made(self, length, *lines):
        return picked([f"region flash rom 16 {length}", "region more rom 1000 8", "region work ram 1 4", MAIN, *lines],
                      fill("a", 2), fill("b", 4, align=4))

    FREE = ["free fa in flash more align 1 fill 0 take u.a", "free fb in flash more align 1 fill 0 take u.b"]

    def test_just_full(self):
        one = "place rest in flash align 1 fill 0 take u.*"
        self.assertEqual(lay(self.made(12, one), 1000).lengths, (12, 0, 0))
        self.fails(NoFit, 0, lay, self.made(11, one), 1000)
        self.assertEqual(list(layings(self.made(11, one), 1000)), [])
        self.fails(NoFit, 0, first_unkept, self.made(11, one), 1000)
        self.fails(NoFit, 2, lay, self.made(2, *self.FREE), 1000)
        ram = picked(["region flash rom 16 90", "region work ram 1 4", MAIN,
                      "place z in work align 1 fill 0 take u.*"], cells("z", "zero", [0] * 4))
        self.assertEqual(lay(ram, 1000).lengths, (3, 4))
        ram = picked(["region flash rom 16 90", "region work ram 1 4", MAIN,
                      "place z in work align 1 fill 0 take u.*"], cells("z", "zero", [0] * 5))
        self.fails(NoFit, 0, lay, ram, 1000)

    def test_layings_in_order(self):
        made = self.made(30, *self.FREE)
        rows = [told(each)[:3] for each in layings(made, 1000)]
        self.assertEqual(rows, [
            ((0, 0), ((0, 1), (), ()), (12, 0, 0)), ((0, 0), ((1, 0), (), ()), (10, 0, 0)),
            ((0, 1), ((0,), (1,), ()), (5, 4, 0)), ((1, 0), ((1,), (0,), ()), (8, 2, 0)),
            ((1, 1), ((), (0, 1), ()), (3, 8, 0)), ((1, 1), ((), (1, 0), ()), (3, 6, 0))])
        # The first one of fewest words.
        self.assertEqual(told(lay(made, 1000))[:3], rows[2])

    def test_corners(self):
        made = self.made(3, *self.FREE)
        rows = least_machines(made, 1000)
        self.assertEqual([lengths for lengths, _ in rows], [(3, 6, 0), (5, 4, 0), (8, 2, 0), (10, 0, 0)])
        self.assertEqual([laying.lengths for _, laying in rows], [lengths for lengths, _ in rows])
        self.assertEqual([laying.packing.orders[:2] for _, laying in rows],
                         [((), (1, 0)), ((0,), (1,)), ((1,), (0,)), ((1, 0), ())])
        self.assertIsInstance(rows[0][1], Laying)
        alone = picked(["region flash rom 16 9", MAIN, "place rest in flash align 1 fill 0 take u.*"], fill("a", 50))
        self.assertEqual([lengths for lengths, _ in least_machines(alone, 1000)], [(53,)])

    def test_machines_hold_what_fits(self):
        for length, more in itertools.product(range(2, 14), range(1, 9)):
            lines = [f"region flash rom 16 {length}", f"region more rom 1000 {more}", "region work ram 1 4", MAIN]
            made = picked(lines + self.FREE, fill("a", 2), fill("b", 4, align=4))
            fitting = list(layings(made, 1000)) != []
            held = [holds(lengths, (length, more, 4)) for lengths, _ in least_machines(made, 1000)]
            self.assertEqual(any(held), fitting)

    def test_holds(self):
        self.assertTrue(holds((1, 2, 3), (1, 2, 3)))
        self.assertTrue(holds((1, 2, 3), (9, 9, 9)))
        self.assertFalse(holds((1, 2, 3), (9, 1, 9)))
        self.assertTrue(holds((), ()))

    def test_comparisons(self):
        first, second, third = list(layings(self.made(30, *self.FREE), 1000))[:3]
        self.assertEqual([each.words for each in (first, second, third)], [12, 10, 9])
        self.assertEqual([first > second, first >= second, first < second, first <= second, first == second,
                          first != second], [True, True, False, False, False, True])
        other = list(layings(self.made(30, *self.FREE), 1016))[0]
        self.assertEqual([first == other, first != other, first <= other, first >= other, first < other, first > other],
                         [True, False, True, True, False, False])
        self.assertFalse(first == 12)
        with self.assertRaises(TypeError):
            first <= 12


class Homes(Checks):
    def test_bounds(self):
        made = picked(["region flash rom 16 9", MAIN])
        for home in (1, 63487, 2):
            self.assertEqual(lay(made, home).start_of("text"), home + 16)
        for home in (0, 63488, -1, True, None, "1", 1.0):
            for call in (lay, first_unkept, least_machines):
                self.fails_same(BadHome, home, call, made, home)
            late = layings(made, home)
            self.fails_same(BadHome, home, list, late)

    def test_ram_regions(self):
        made = picked(["region flash rom 16 9", "region work ram 5000 10", MAIN])
        for home in (5009, 5000, 4999, 2953):
            self.fails(BadHome, home, lay, made, home)
            self.fails(BadHome, home, list, layings(made, home))
        for home in (5010, 2952):
            self.assertEqual(lay(made, home).home, home)

    def test_bad_home_ahead_of_no_fit(self):
        made = picked(["region flash rom 16 1", MAIN])
        self.fails(BadHome, 0, lay, made, 0)
        self.fails(NoFit, 0, lay, made, 1)
        self.fails(BadHome, 0, first_unkept, made, 0)


class Claims(Checks):
    def made(self, *lines):
        return picked(["region flash rom 16 90", "region more rom 1000 90", MAIN, *Fits.FREE, *lines],
                      fill("a", 2), fill("b", 4, align=4))

    def test_claims_choose(self):
        self.assertEqual(lay(self.made("claim start fa < start fb"), 1000).packing.dealing, (0, 1))
        self.assertEqual(lay(self.made("claim start fa > start fb"), 1000).packing.dealing, (1, 1))
        one = lay(self.made("claim used more = 0"), 1000)
        self.assertEqual((one.packing.dealing, one.packing.orders[0], one.words), ((0, 0), (1, 0), 10))
        one = lay(self.made("claim used more = 0", "claim start fa < start fb"), 1000)
        self.assertEqual((one.packing.orders[0], one.words), ((0, 1), 12))

    def test_cannot_keep(self):
        made = self.made("claim used more = 0", "claim start fa < start fb", "claim used flash = 10", "claim 0")
        self.fails(CannotKeep, 2, lay, made, 1000)
        number, laying = first_unkept(made, 1000)
        self.assertEqual((number, laying.packing.orders[0]), (2, (0, 1)))
        made = self.made("claim 0")
        self.fails(CannotKeep, 0, lay, made, 1000)
        number, laying = first_unkept(made, 1000)
        self.assertEqual((number, laying.packing.dealing), (0, (0, 1)))
        made = self.made("claim used more > 0", "claim used more > 0 and used flash > 5", "claim 1 / 0")
        self.fails(CannotKeep, 2, lay, made, 1000)
        self.assertEqual(told(first_unkept(made, 1000)[1])[0], (1, 0))

    def test_kept_claims(self):
        made = self.made("claim 1", "claim 2 - 1", "claim start fa < 0", "claim let2", "let let2 be 0 - 3")
        laying = list(layings(made, 1000))[0]
        self.assertEqual([laying.keeps_claim(number) for number in range(4)], [True, True, False, True])
        self.assertIsNone(first_unkept(self.made(), 1000))
        self.assertIsNone(first_unkept(self.made("claim 1"), 1000))

    def test_by_their_definition(self):
        claims = ["claim start fa < start fb", "claim used more > 4", "claim used flash > 3", "claim start fb mod 8 = 0",
                  "claim room flash < 81", "claim start fb < base more"]
        for chosen in itertools.permutations(claims, 3):
            made = self.made(*chosen)
            rows = list(layings(made, 1000))
            keeping = rows
            number = 0
            while number < 3 and any(each.keeps_claim(number) for each in keeping):
                keeping = [each for each in keeping if each.keeps_claim(number)]
                number += 1
            best = [each for each in keeping if each.words == min(one.words for one in keeping)][0]
            if number == 3:
                self.assertEqual(told(lay(made, 1000)), told(best))
                self.assertIsNone(first_unkept(made, 1000))
            else:
                self.fails(CannotKeep, number, lay, made, 1000)
                found = first_unkept(made, 1000)
                self.assertEqual((found[0], told(found[1])), (number, told(best)))

    def test_confirms(self):
        made = self.made("claim confirms < 100")
        self.fails(CannotKeep, 0, lay, made, 1000)
        self.fails(CannotKeep, 0, lay, made, 1000, 100)
        self.assertEqual(lay(made, 1000, 99).words, 9)
        self.assertEqual(lay(made, 1000, confirms=99).words, 9)
        self.assertIsNone(first_unkept(made, 1000, 5))
        self.assertEqual(first_unkept(made, 1000)[0], 0)
        laying = lay(self.made(), 1000)
        self.assertEqual((laying.facts()[("confirms",)], laying.facts(7)[("confirms",)]), (None, 7))
        unkept = first_unkept(made, 1000)[1]
        self.assertEqual([unkept.keeps_claim(0), unkept.keeps_claim(0, 99), unkept.keeps_claim(0, confirms=100)],
                         [False, True, False])


class Facts(Checks):
    def made(self):
        inner = unit("lib", code("c", [HALT], [("call", 0)], [("call", 2, 1)]), code("d", [HALT], [("deadlib", 0)]))
        sections = [cells("v", "data", [1, 2, 3], [("v", 1), ("vend", 3), ("hid", 0, "local")]), fill("one", 3),
                    cells("two", "zero", [0] * 5, [("z", 0, "weak")]), code("use", [("go", "call")])]
        lines = ["region flash rom 20 100", "region work ram 3 60", "place text in flash align 1 fill 0 take *.[code]",
                 "place vars in work load flash align 4 fill 0 take u.v", "overlay over in work load flash fill 0",
                 "part one align 4 take u.one", "part two align 2 take u.two", "claim exported nowhere = 0",
                 "let la be kept other + 5", "let lb be la * size text", "let lc be at nowhere", "let ld be takes call"]
        return picked(lines, *sections, archives=[Archive("arc", [inner])])

    def test_all_words(self):
        laying = lay(self.made(), 1000)
        facts = laying.facts()
        for name in ("text", "vars", "over", "one", "two"):
            for word, method in (("start", laying.start_of), ("end", laying.end_of), ("size", laying.size_of),
                                 ("load", laying.load_of)):
                self.assertEqual(facts[(word, name)], method(name))
        self.assertEqual([facts[("home",)], facts[("confirms",)]], [1000, None])
        self.assertEqual([facts[(word, "flash")] for word in ("base", "len", "used", "room")], [1020, 100, 16, 84])
        self.assertEqual([facts[(word, "work")] for word in ("base", "len", "used", "room")], [3, 60, 10, 50])
        self.assertEqual([facts[("at", name)] for name in ("begin", "last", "call", "v", "vend", "z")],
                         [1020, 1022, 1023, 5, 7, 8])
        self.assertNotIn(("at", "hid"), facts)
        self.assertIsNone(facts.get(("at", "deadlib")))
        self.assertEqual([facts[("exported", name)] for name in ("begin", "last", "call", "v", "nowhere")],
                         [1, 0, 1, 0, 0])
        self.assertEqual([facts[("takes", "call")], facts[("leaves", "call")], facts[("takes", "begin")]], [2, 1, 0])
        self.assertNotIn(("takes", "last"), facts)
        self.assertEqual([facts[("kept", name)] for name in ("v", "other", "begin")], [0, 0, 0])
        self.assertEqual([facts[("let", name)] for name in ("la", "lb", "lc", "ld")], [5, 25, None, 2])

    def test_kept(self):
        made = picked(["region flash rom 16 99", "region work ram 3 60", MAIN,
                       "place vars in work load flash align 1 fill 0 take *.*"], cells("k", "kept", [4], [("cell", 0)]))
        facts = lay(made, 1000).facts()
        self.assertEqual([facts[("kept", "cell")], facts[("kept", "begin")], facts[("at", "cell")]], [1, 0, 3])
        self.assertEqual(facts[("exported", "cell")], 0)

    def test_facts_belong_to_the_caller(self):
        laying = lay(self.made(), 1000)
        laying.facts().clear()
        self.assertEqual(laying.facts()[("home",)], 1000)


if __name__ == "__main__":
    unittest.main()
