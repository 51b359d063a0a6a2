"""Promises [10] and [11]: words and addresses."""

import unittest

from checks import cells, Checks, kept, program, pushes
from romwright.named import Run

SIZES = {"x": 3, "y": 2, "e": 0}


def sections():
    return [cells("d", "data", [1, 2, 3], [("x", 0)]), cells("t", "const", [4, 5], [("y", 0)]),
            cells("z", "zero", [], [("e", 0)])]


def items_of(value):
    return ("push", value) if isinstance(value, int) else ("name", value[0], value[1])


NUMBERS = {"x": 1, "y": 2, "e": 3}


def plain(value):
    return value if isinstance(value, int) else (NUMBERS[value[0]], value[1])


def outcome(op, *values):
    """What an instruction leaves of these values: a value, "hangs", or the reason of a fault."""
    run = Run(program([*[items_of(value) for value in values], (op,)], *sections()))
    run.go(len(values) + 1)
    if run.kind == "fault":
        return run.reason
    return run.kind if run.kind == "hangs" else run.stack[-1] if len(run.stack) > 0 else None


def bases(name):
    return range(1, 65536 - SIZES[name])


def by_bases(name, tell):
    """What is told of all bases of a section, if it is one thing; otherwise "hangs"."""
    found = set()
    for base in bases(name):
        found.add(tell(base))
        if len(found) > 1:
            return "hangs"
    return found.pop()


OFFSETS = {"x": (0, 1, 2, 3, 4, 5, 32768, 65533, 65534, 65535), "y": (0, 1, 2, 3, 65534, 65535),
           "e": (0, 1, 2, 65534, 65535)}


class Adding(Checks):
    def test_add(self):
        self.assertEqual(outcome("add", ("x", 2), 5), (1, 7))
        self.assertEqual(outcome("add", 5, ("x", 2)), (1, 7))
        self.assertEqual(outcome("add", ("x", 2), 65535), (1, 1))
        self.assertEqual(outcome("add", ("x", 2), 65533), (1, 65535))
        self.assertEqual(outcome("add", 65535, ("x", 0)), (1, 65535))
        for other in (("x", 2), ("x", 0), ("y", 0)):
            self.assertEqual(outcome("add", ("x", 2), other), "hangs")

    def test_sub(self):
        self.assertEqual(outcome("sub", ("x", 2), 5), (1, 65533))
        self.assertEqual(outcome("sub", ("x", 2), 2), (1, 0))
        self.assertEqual(outcome("sub", ("x", 2), ("x", 5)), 65533)
        self.assertEqual(outcome("sub", ("x", 65535), ("x", 65535)), 0)
        for left, right in ((5, ("x", 5)), (0, ("x", 0)), (("x", 0), ("y", 0)), (("y", 5), ("x", 5))):
            self.assertEqual(outcome("sub", left, right), "hangs")

    def test_mul(self):
        for word, told in ((0, 0), (1, (1, 7)), (2, "hangs"), (65535, "hangs")):
            self.assertEqual(outcome("mul", ("x", 7), word), told)
            self.assertEqual(outcome("mul", word, ("x", 7)), told)
        for other in (("x", 7), ("y", 7)):
            self.assertEqual(outcome("mul", ("x", 7), other), "hangs")


class Deciding(Checks):
    def zero_of(self, name, offset, after):
        """Where `unless` goes on."""
        items = [("name", name, offset), ("unless", "on" if after else "begin"), ("push", 7)]
        run = Run(program(items, *sections(), symbols=[("on", 2)]))
        run.go(2)
        return run.place if run.kind == "runs" else run.kind

    def test_unless(self):
        for name in SIZES:
            for offset in OFFSETS[name]:
                told = "hangs" if offset > SIZES[name] else (0, 2)
                least = min([(base + offset) % 65536 for base in bases(name)])
                self.assertEqual(least >= 1, offset <= SIZES[name])
                self.assertEqual(self.zero_of(name, offset, False), told)
                self.assertEqual(self.zero_of(name, offset, True), (0, 2))

    def test_same_offsets(self):
        for first in OFFSETS["x"]:
            for second in OFFSETS["x"]:
                self.assertEqual(outcome("same", ("x", first), ("x", second)), 1 if first == second else 0)

    def test_less_offsets(self):
        for name in SIZES:
            size = SIZES[name]
            for first in OFFSETS[name]:
                for second in OFFSETS[name]:
                    told = by_bases(name, lambda base: int((base + first) % 65536 < (base + second) % 65536))
                    self.assertEqual(outcome("less", (name, first), (name, second)), told, (size, first, second))

    def words_near(self, name, offset):
        size = SIZES[name]
        ends = [offset, offset + 1, 65535 - size + offset, 65534 - size, 65535 - size, 1, 0, 65535]
        return sorted({(end + k) % 65536 for end in ends for k in (-2, -1, 0, 1, 2)})

    def test_words(self):
        """Both orders of a word and an address, by all bases of its section."""
        for name, offsets in (("x", (0, 3, 4, 65535)), ("e", (0, 1)), ("y", (2, 65534))):
            for offset in offsets:
                for word in self.words_near(name, offset):
                    for op in ("less", "same"):
                        def tell(base):
                            address = (base + offset) % 65536
                            return int(address < word if op == "less" else address == word)

                        def tell_back(base):
                            address = (base + offset) % 65536
                            return int(word < address if op == "less" else address == word)
                        at = (name, offset)
                        self.assertEqual(outcome(op, at, word), by_bases(name, tell), (op, at, word))
                        self.assertEqual(outcome(op, word, at), by_bases(name, tell_back), (op, word, at))

    def meet(self, first, second):
        """Whether two addresses of different sections are the same word on some placement."""
        for base in bases(first[0]):
            other = (base + first[1] - second[1]) % 65536
            if not 1 <= other <= 65535 - SIZES[second[0]]:
                continue
            if max(base, other) >= min(base + SIZES[first[0]], other + SIZES[second[0]]):
                return True
        return False

    def test_same_of_two_sections(self):
        told = set()
        for first, second in (("x", "y"), ("x", "e"), ("e", "y")):
            for offset in OFFSETS[first]:
                for other in OFFSETS[second]:
                    left, right = (first, offset), (second, other)
                    expected = "hangs" if self.meet(left, right) else 0
                    told.add(expected)
                    self.assertEqual(outcome("same", left, right), expected, (left, right))
                    self.assertEqual(outcome("same", right, left), expected, (left, right))
        self.assertEqual(len(told), 2)

    def test_less_of_two_sections(self):
        for left, right in ((("x", 0), ("y", 0)), (("y", 65535), ("x", 1)), (("e", 0), ("x", 0))):
            self.assertEqual(outcome("less", left, right), "hangs")


class Cells(Checks):
    def test_load(self):
        for word, told in ((0, "astray"), (65535, "astray"), (1, "hangs"), (65534, "hangs"), (500, "hangs")):
            self.assertEqual(outcome("load", word), told)
        for offset, told in ((0, 1), (1, 2), (2, 3), (3, "hangs"), (4, "hangs"), (65534, "hangs"), (65535, "hangs")):
            self.assertEqual(outcome("load", ("x", offset)), told)
        self.assertEqual(outcome("load", ("y", 1)), 5)
        self.assertEqual(outcome("load", ("e", 0)), "hangs")

    def test_store(self):
        def store(address):
            return outcome("store", 9, address)
        for word, told in ((0, "astray"), (65535, "astray"), (1, "hangs"), (65534, "hangs")):
            self.assertEqual(store(word), told)
        self.assertIsNone(store(("x", 2)))
        # No section but that of x has a cell that can be written.
        for offset in (3, 4, 65534, 65535):
            self.assertEqual(store(("x", offset)), "astray")
        for offset in (0, 1):
            self.assertEqual(store(("y", offset)), "astray")
        for address in (("y", 2), ("y", 65535), ("e", 0), ("e", 65535)):
            self.assertEqual(store(address), "hangs")

    def stored(self, address, *others):
        run = Run(program([("push", 9), items_of(address), ("store",)], *others))
        run.go(3)
        return run.reason or run.kind

    def test_store_without_cells(self):
        table = cells("t", "const", [1], [("y", 0)])
        empty = [cells("d", "data", [], [("x", 0)]), cells("z", "zero", []), kept("k")]
        for word in (1, 500, 65534, 0, 65535):
            self.assertEqual(self.stored(word, table, *empty), "astray")
        for address in (("y", 0), ("y", 1), ("x", 0), ("x", 65535)):
            self.assertEqual(self.stored(address, table, *empty), "astray")
        for more in (cells("d2", "data", [1]), cells("d2", "zero", [0]), kept("k2", c=1)):
            self.assertEqual(self.stored(5, table, more), "hangs")
            self.assertEqual(self.stored(("y", 1), table, more), "hangs")
            self.assertEqual(self.stored(("y", 0), table, more), "astray")
            self.assertEqual(self.stored(0, table, more), "astray")

    def test_stores_in_each_kind(self):
        for more in (cells("d", "data", [1], [("x", 0)]), cells("d", "zero", [0], [("x", 0)]), kept("k", x=1)):
            self.assertEqual(self.stored(("x", 0), more), "runs")
            self.assertEqual(self.stored(("x", 1), more), "astray")

    def test_addresses_are_values(self):
        run = Run(program([("name", "x", 1), ("name", "x", 0), ("store",), ("name", "x", 0), ("load",), ("load",),
                           ("out",)], *sections()))
        run.go(99)
        self.assertEqual([run.kind, run.prints], ["done", [2]])
        self.assertEqual(pushes(1), [("push", 1)])


if __name__ == "__main__":
    unittest.main()
