"""Promise [6]."""

import random
import unittest

from checks import Checks
from romwright.plain import BadLine
from romwright.units import Section, Unit
from romwright.unittext import read_unit, write_unit

EXAMPLE = ["unit app", "section main code 1 free", "global begin", "name count 0", "load", "out", "halt",
           "section store kept 1 free", "global count", "word 5", "end"]
WHOLE = """unit u
section a code 2 fixed
global one
weak two
push 5
local three
name one 65535
go a
unless b
call c
bring d
far p q 0 2
dup
global four
halt
export four 1 2
export one 0 0
section b const 16 free
word 0
local five
at x 7
at y 0
global six
local tail
section c data 1 free
weak empty
section d zero 4 free
zero 3
global mid
local mie
zero 1
weak late
section e kept 8 free
global kepta
word 7
global keptb
word 65535
section f zero 1 free
section g zero 1 free
local here
zero 120
local there
end""".split("\n")


def text_of(kind, *lines):
    return ["unit u", f"section a {kind} 1 free", *lines, "end"]


class Writing(Checks):
    def test_example(self):
        main = Section("main", "code", [("name", "count", 0), ("load",), ("out",), ("halt",)],
                       symbols=[("begin", 0, "global")])
        made = Unit("app", [main, Section("store", "kept", [5], symbols=[("count", 0, "global")])])
        self.assertEqual(write_unit(made), EXAMPLE)
        self.assertEqual(read_unit(EXAMPLE), made)

    def test_whole(self):
        made = read_unit(WHOLE)
        self.assertEqual(write_unit(made), WHOLE)
        self.assertEqual([section.kind for section in made], ["code", "const", "data", "zero", "kept", "zero", "zero"])
        self.assertEqual(made["a"].body[:3], (("push", 5), ("name", "one", 65535), ("go", "a")))
        self.assertEqual(made["a"].body[6], ("far", "p", "q", 0, 2))
        self.assertEqual(made["a"].exports, (("four", 1, 2), ("one", 0, 0)))
        self.assertEqual(made["a"].symbols, (("one", 0, "global"), ("two", 0, "weak"), ("three", 1, "local"),
                                             ("four", 8, "global")))
        self.assertEqual([made["a"].fixed, made["a"].align, made["b"].align], [True, 2, 16])
        self.assertEqual(made["b"].body, (0, ("at", "x", 7), ("at", "y", 0)))
        self.assertEqual(made["b"].symbols, (("five", 1, "local"), ("six", 3, "global"), ("tail", 3, "local")))
        self.assertEqual(made["c"].symbols, (("empty", 0, "weak"),))
        self.assertEqual(made["d"].body, (0, 0, 0, 0))
        self.assertEqual(made["d"].symbols, (("mid", 3, "global"), ("mie", 3, "local"), ("late", 4, "weak")))
        self.assertEqual(made["e"].body, (7, 65535))

    def test_no_sections(self):
        self.assertEqual(write_unit(Unit("a", [])), ["unit a", "end"])
        self.assertEqual(read_unit(["unit a", "end"]), Unit("a", []))

    def test_names_like_words(self):
        words = ["unit", "section", "end", "export", "word", "zero", "at", "local", "global", "weak", "halt", "code",
                 "free", "fixed", "push", "far"]
        first = Section("section", "code", [("go", "end"), ("far", "far", "at", 1, 1), ("go", "word")],
                        symbols=[(word, k % 3, "global") for k, word in enumerate(words)],
                        exports=[("export", 0, 1), ("end", 2, 2)])
        made = Unit("unit", [first, Section("end", "data", [("at", "at", 1)], symbols=[("data", 1, "local")])])
        self.assertEqual(read_unit(write_unit(made)), made)


class Wrong(Checks):
    def test_first_lines(self):
        self.fails(BadLine, 0, read_unit, [])
        for line in ("", "unit", "unit A", "unit a b", " unit a", "unit  a", "unit a ", "Unit a", "end", "unit a\n",
                     "section a code 1 free", "unit abcdefghij"):
            self.fails(BadLine, 0, read_unit, [line, "end"])

    def test_section_lines(self):
        for line in ("section", "section b", "section b zero 1", "section b zero 1 fixed", "section b zero 3 free",
                     "section b zero 01 free", "section b zero x free", "section b none 1 free",
                     "section B zero 1 free", "section b zero 1 free x", "section  b zero 1 free",
                     "section a zero 1 free", "section b code 1 other", "section b zero 65536 free",
                     "section b zero -1 free", "unit b", "", "word 1", "zero 1", "export a 0 0"):
            self.fails(BadLine, 2, read_unit, ["unit u", "section a zero 1 free", line, "end"] if "zero 1" != line
                       else ["unit u", "section a code 1 free", line, "end"])
        rows = [f"section s{k} zero 1 free" for k in range(9)]
        self.assertEqual(len(read_unit(["unit u"] + rows[:8] + ["end"])), 8)
        self.fails(BadLine, 9, read_unit, ["unit u"] + rows + ["end"])

    def test_lines_ahead_of_a_section(self):
        for line in ("halt", "word 1", "zero 1", "local a", "export a 0 0", "push 1"):
            self.fails(BadLine, 1, read_unit, ["unit u", line, "end"])

    def test_cut_off(self):
        for count in range(len(WHOLE)):
            self.fails(BadLine, count, read_unit, WHOLE[:count])

    def test_behind_the_end(self):
        for line in ("", "end", "unit b", "section z zero 1 free", "halt"):
            self.fails(BadLine, len(WHOLE), read_unit, WHOLE + [line])

    def test_blanks(self):
        for number, line in enumerate(WHOLE):
            for wrong in (line + " ", " " + line, line.replace(" ", "  "), line + " x", line.upper(), line + "\n"):
                if wrong != line:
                    self.fails(BadLine, number, read_unit, WHOLE[:number] + [wrong] + WHOLE[number + 1:])

    def test_instructions(self):
        for line in ("push", "push -1", "push 65536", "push 05", "push x", "push 1 1", "push +1", "push 1_0",
                     "push \u0661", "name a", "name 1 a", "name a 65536", "name a 01", "go", "go 1", "go a b", "unless",
                     "call A", "bring", "far a b 0", "far a b 3 0", "far a b 0 3", "far a b 00 0", "far a b 0 0 0",
                     "far A b 0 0", "dup 1", "hop 5", "word 5", "at a 0", "zero 1", "halts", "", "end x",
                     "push " + "9" * 5000):
            self.fails(BadLine, 3, read_unit, text_of("code", "halt", line, "halt"))

    def test_items(self):
        for line in ("word", "word -1", "word 65536", "word 00", "word a", "word 1 1", "at", "at a", "at a -1",
                     "at A 0", "at a 0 0", "halt", "push 1", "zero 1", "0", ""):
            for kind in ("const", "data"):
                self.fails(BadLine, 3, read_unit, text_of(kind, "word 1", line, "word 1"))
        for line in ("zero 0", "zero -1", "zero 01", "zero", "zero 1 1", "zero 121", "word 0", "at a 0", "zero x"):
            self.fails(BadLine, 3, read_unit, text_of("zero", "local a", line))

    def test_zero_runs(self):
        self.fails(BadLine, 3, read_unit, text_of("zero", "zero 1", "zero 1"))
        self.fails(BadLine, 4, read_unit, text_of("zero", "zero 100", "local a", "zero 21"))
        self.assertEqual(len(read_unit(text_of("zero", "zero 100", "local a", "zero 20", "local b"))["a"]), 120)
        self.fails(BadLine, 4, read_unit, text_of("zero", "zero 120", "local a", "zero 1"))

    def test_symbols(self):
        for line in ("local", "local A", "local a b", "Local a", "weak 1", "local first", "global first"):
            self.fails(BadLine, 4, read_unit, text_of("data", "local first", "word 1", line, "word 1"))
        self.fails(BadLine, 3, read_unit, text_of("data", "local b", "local a", "word 1"))
        self.fails(BadLine, 3, read_unit, text_of("data", "local b", "weak a"))
        self.assertEqual(len(read_unit(text_of("data", "local b", "word 1", "local a"))["a"].symbols), 2)
        two = ["unit u", "section a data 1 free", "local x", "section b code 1 free", "weak x", "halt", "end"]
        self.fails(BadLine, 4, read_unit, two)

    def test_symbols_at_the_end(self):
        for kind, item in (("const", "word 1"), ("data", "word 1"), ("zero", "zero 1")):
            self.assertEqual(read_unit(text_of(kind, item, "local x"))["a"].symbols, (("x", 1, "local"),))
        self.fails(BadLine, 4, read_unit, text_of("code", "halt", "local x"))
        self.fails(BadLine, 5, read_unit, text_of("kept", "global y", "word 1", "global x"))

    def test_kept(self):
        self.fails(BadLine, 2, read_unit, text_of("kept", "word 1"))
        self.fails(BadLine, 2, read_unit, text_of("kept", "local a", "word 1"))
        self.fails(BadLine, 2, read_unit, text_of("kept", "weak a", "word 1"))
        self.fails(BadLine, 3, read_unit, text_of("kept", "global a", "global b", "word 1"))
        self.fails(BadLine, 4, read_unit, text_of("kept", "global a", "word 1", "word 2"))
        self.fails(BadLine, 3, read_unit, text_of("kept", "global a", "at b 0"))
        self.fails(BadLine, 3, read_unit, text_of("kept", "global a"))
        self.fails(BadLine, 3, read_unit, ["unit u", "section a kept 1 free", "global a", "section b zero 1 free"])

    def test_ends_of_code(self):
        self.fails(BadLine, 2, read_unit, text_of("code"))
        self.fails(BadLine, 3, read_unit, text_of("code", "push 1"))
        self.fails(BadLine, 4, read_unit, text_of("code", "halt", "push 1", "export a 0 0"))
        self.fails(BadLine, 2, read_unit, text_of("code", "section b zero 1 free"))
        self.fails(BadLine, 2, read_unit, text_of("code", "export a 0 0"))
        self.fails(BadLine, 4, read_unit, text_of("code", "global a", "push 1", "export a 0 0", "halt"))
        self.fails(BadLine, 4, read_unit, text_of("code", "halt", "global a", "export a 0 0", "halt"))

    def test_exports(self):
        head = ["global a", "global b", "local c", "weak d", "halt"]
        for line in ("export", "export a", "export a 0", "export a 0 0 0", "export a 3 0", "export a 0 3",
                     "export a -1 0", "export a 00 0", "export c 0 0", "export d 0 0", "export e 0 0", "export A 0 0"):
            self.fails(BadLine, 7, read_unit, text_of("code", *head, line))
        self.fails(BadLine, 8, read_unit, text_of("code", *head, "export b 0 0", "export a 0 0"))
        self.fails(BadLine, 8, read_unit, text_of("code", *head, "export b 0 0", "export b 0 0"))
        for line in ("halt", "local e", "push 1"):
            self.fails(BadLine, 8, read_unit, text_of("code", *head, "export a 0 0", line))
        self.fails(BadLine, 4, read_unit, text_of("data", "global a", "word 1", "export a 0 0"))

    def test_limits(self):
        self.assertEqual(len(read_unit(text_of("code", *["halt"] * 100))["a"]), 100)
        self.fails(BadLine, 102, read_unit, text_of("code", *["halt"] * 101))
        self.fails(BadLine, 101, read_unit, text_of("code", *["halt"] * 99, "push 1", "halt"))
        self.fails(BadLine, 102, read_unit, text_of("code", *["halt"] * 100, "local a"))
        fixed = ["unit u", "section a code 1 fixed"] + ["push 1"] * 39
        self.assertEqual(len(read_unit(fixed + ["ret", "end"])["a"]), 40)
        self.fails(BadLine, 41, read_unit, fixed + ["dup", "halt", "end"])
        self.fails(BadLine, 42, read_unit, fixed + ["halt", "halt", "end"])
        for kind in ("const", "data"):
            self.fails(BadLine, 122, read_unit, text_of(kind, *["word 1"] * 121))
            self.assertEqual(len(read_unit(text_of(kind, *["word 1"] * 120, "local a"))["a"]), 120)
        kept = []
        for k in range(120):
            kept += [f"global k{k}", "word 1"]
        self.assertEqual(len(read_unit(text_of("kept", *kept))["a"]), 120)
        self.fails(BadLine, 242, read_unit, text_of("kept", *kept, "global x", "word 1"))


class Random(Checks):
    def some_section(self, chosen, name, used):
        kind = chosen.choice(("code", "const", "data", "zero", "kept"))
        count = chosen.randrange(1, 7)
        items = {"code": [("push", 9), ("go", "a"), ("name", "b", 3), ("dup",), ("far", "a", "b", 1, 2)],
                 "zero": [0], "kept": [5, 6]}.get(kind, [0, 7, ("at", "a", 5)])
        body = [chosen.choice(items) for _ in range(count)]
        if kind == "code":
            body.append(("halt",))
        symbols = []
        for place in range(len(body) + (kind in ("const", "data", "zero"))):
            for _ in range(1 if kind == "kept" else chosen.choice((0, 0, 1, 2))):
                binding = "global" if kind == "kept" else chosen.choice(("local", "global", "weak"))
                symbols.append((f"{chosen.choice('abc')}{len(used)}", place, binding))
                used.append(1)
        exports = [(symbol[0], chosen.randrange(3), chosen.randrange(3)) for symbol in symbols
                   if symbol[2] == "global" and kind == "code"]
        return Section(name, kind, body, align=chosen.choice((1, 2, 16)), fixed=kind == "code" and count < 4,
                       symbols=symbols, exports=exports)

    def some_unit(self, chosen):
        used = []
        return Unit("u", [self.some_section(chosen, f"s{k}", used) for k in range(chosen.randrange(5))])

    def test_there_and_back(self):
        chosen = random.Random(3)
        for _ in range(200):
            made = self.some_unit(chosen)
            lines = write_unit(made)
            self.assertEqual(read_unit(lines), made)
            self.assertEqual(write_unit(read_unit(lines)), lines)

    def test_spoilt(self):
        """A line left out, doubled or moved: what is read, if anything, is the text of a unit."""
        chosen = random.Random(4)
        for _ in range(300):
            lines = write_unit(self.some_unit(chosen))
            at = chosen.randrange(len(lines))
            way = chosen.randrange(3)
            spoilt = lines[:at] + lines[at + 1:] if way == 0 else lines[:at] + lines[at:at + 1] + lines[at:]
            if way == 2:
                spoilt = lines[:at] + lines[at + 1:]
                spoilt.insert(chosen.randrange(len(lines)), lines[at])
            try:
                self.assertEqual(write_unit(read_unit(spoilt)), spoilt)
            except BadLine as error:
                self.assertLessEqual(error.number, len(spoilt))
                same = 0
                while same < min(len(lines), len(spoilt)) and lines[same] == spoilt[same]:
                    same += 1
                # What is the beginning of a unit's text cannot be bad.
                self.assertGreaterEqual(error.number, same)


if __name__ == "__main__":
    unittest.main()
