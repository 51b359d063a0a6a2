"""All examples of the document, in one go, and what it promises of errors and copies over all modules ([1])."""

import unittest

from checks import Checks, code, kept, unit
from romwright import plain
from romwright.alike import Alphabet, alike
from romwright.delta import difference
from romwright.joining import joined
from romwright.life import built, course_of
from romwright.named import met
from romwright.plain import hex_text, name_words, RomError
from romwright.script import Script
from romwright.units import Section, Unit
from romwright.unittext import write_unit
from romwright.waves import bridges, Course, waves

ERRORS = """BadName BadWord BadText BadKind BadAlign BadFixed TooMany BadItem BadSymbol BadCell BadExport NoSection Twice
BadLine Missing Unlike BadEvent NotNow Astray Overlays BadBases NoHang BadWords BadStatement Unknown Ring NoName Wanted
Unplaced Unfit NoFit BadHome CannotKeep BadMap BadContent BadAlphabet BadBase BadTurn Full BadPiece BadForm BadSecret
TooLong BadImage NoPage Written NoBlock NoSlot BadPower PowerLost BadHomes BadLimit Refused Stale NoMember BadReleases
BadMixture NoWave BadParcel NoRow""".split()


class Examples(Checks):
    def test_all(self):
        self.assertEqual(name_words("ab1"), (1708, 0, 0))
        self.assertEqual(hex_text((1708, 65535)), "06acffff")
        main = Section("main", "code", [("name", "count", 0), ("load",), ("out",), ("halt",)],
                       symbols=[("begin", 0, "global")])
        made = Unit("app", [main, Section("store", "kept", [5], symbols=[("count", 0, "global")])])
        self.assertEqual(write_unit(made), [
            "unit app", "section main code 1 free", "global begin", "name count 0", "load", "out", "halt",
            "section store kept 1 free", "global count", "word 5", "end"])
        self.assertEqual(met(joined([made], "begin"), [("start",)], {"count": 9}), [(("print", 9), ("done",))])
        script = Script(["region flash rom 16 100", "region work ram 1 20",
                         "place text in flash align 1 fill 0 take *.[code]",
                         "place vars in work load flash align 1 fill 0 take *.[kept]", "entry begin"])
        self.assertEqual(built(script, [made], 1000).content, (256, 1, 2816, 5120, 6656, 5))
        other = Unit("app", [main, Section("store", "kept", [6], symbols=[("count", 0, "global")])])
        told = alike(joined([made], "begin"), joined([other], "begin"), Alphabet((0, 1)))
        self.assertEqual([told.row, told.first, told.second],
                         [(("start",),), (("print", 5), ("done",)), (("print", 6), ("done",))])
        self.assertEqual(difference((1, 2, 3, 4), (1, 2, 9, 3, 4)), (("copy", 0, 2), ("put", (9, 3, 4))))
        course = course_of(["device a", "release", "offer f 0 0", "release", "offer g 0 0", "device b", "release",
                            "want a f 0 0", "release", "want a g 0 0"])
        self.assertIsInstance(course, Course)
        self.assertEqual(bridges(course, (0, 0), (1, 1)), (("a", 0, "g", 0, 0),))
        self.assertEqual(waves(course + bridges(course, (0, 0), (1, 1)), (0, 0), (1, 1)), ((0, 0), (0, 1), (1, 1)))


class Errors(Checks):
    def test_all_are_directly_under_one(self):
        for name in ERRORS:
            self.assertEqual(getattr(plain, name).__bases__, (RomError,))
        self.assertEqual(RomError.__bases__, (ValueError,))


class Copies(Checks):
    def test_lists_and_dicts_are_copied(self):
        cells = [("k", 0, "global")]
        body = [5]
        section = Section("s", "kept", body, symbols=cells)
        body.append(6)
        cells.clear()
        self.assertEqual((section.body, section.symbols), ((5,), (("k", 0, "global"),)))
        sections = [code("main", [("halt",)], [("begin", 0)]), kept("store", k=1)]
        made = unit("app", *sections)
        sections.clear()
        self.assertEqual(len(made), 2)


if __name__ == "__main__":
    unittest.main()
