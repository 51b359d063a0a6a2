"""Promises [10] (placements) and [15]."""

import random
import unittest

from checks import cells, Checks, code, kept, overlaid, program, pushes, unit
from romwright.joining import joined
from romwright.machine import Board, code_words, Machine, Setup
from romwright.named import Lone
from romwright.placing import check_placement, parting, placed, placed_at
from romwright.plain import BadBases, BadEvent, NoHang, NotNow, Overlays

START = ("start",)


def some_placement(chosen, made):
    """Bases of a placement, by chance: packed at either end, or anywhere."""
    rows = list(range(len(made.sections)))
    chosen.shuffle(rows)
    way = chosen.randrange(3)
    bases = {}
    at = 1 if way == 0 else 65535
    for number in rows:
        size = made.sections[number].size
        if way == 0:
            bases[number] = at
            at += size
        elif way == 1:
            at -= size
            bases[number] = at
        else:
            while True:
                base = chosen.randrange(1, 65536 - size)
                if not any(max(base, bases[k]) < min(base + size, bases[k] + made.sections[k].size) for k in bases):
                    break
            bases[number] = base
    return tuple([bases[k] for k in sorted(bases)])


def word_of(value, bases):
    return value if isinstance(value, int) else (bases[value[0]] + value[1]) % 65536


def is_both(made, pair, first, second):
    """Whether these words are one word, or one address on the two placements."""
    shifts = [(pair[0][k] - pair[1][k]) % 65536 for k, section in enumerate(made.sections) if section.kind != "code"]
    return first == second or (first - second) % 65536 in shifts


class Parted(Checks):
    def stopped(self, made, bases, events, record, steps):
        """A board on a placement that has done so many steps, and what it told last."""
        board = Board(placed(made, bases), record)
        lone = Lone(made, record)
        for event in events[:-1]:
            self.assertEqual(board.meet(event), lone.meet(event))
            self.assertEqual(board.steps, lone.steps)
        board.limit = steps
        return board, board.meet(events[-1])

    def check_pair(self, made, events, record=None):
        """The pair that is told for a row of events: the machines part on it as [15] tells."""
        pair = parting(made, events, record)
        self.assertIsInstance(pair, tuple)
        lone = Lone(made, record)
        for event in events[:-1]:
            lone.meet(event)
        last = lone.meet(events[-1])
        self.assertEqual(last[-1], ("hangs",))
        ends = []
        for bases in pair:
            self.assertIsInstance(bases, tuple)
            check_placement(made, bases)
            if lone.steps > 1:
                board, seen = self.stopped(made, bases, events, record, lone.steps - 1)
                self.assertEqual(seen[:-1], last[:-1])
                # Ahead of the step that hangs both have what the lone device has.
                self.assertEqual(seen[-1], ("late",))
                self.assertEqual([word_of(value, bases) for value in lone.active.pile], board.active.pile)
                self.assertEqual(placed_at(made, bases, board.active.place), lone.active.place)
            board, seen = self.stopped(made, bases, events, record, lone.steps)
            self.assertEqual(board.steps, lone.steps)
            ends.append((board, seen))
        self.assertTrue(self.differ(made, pair, ends[0], ends[1]), (pair, ends))
        return pair

    def differ(self, made, pair, first, second):
        faults = [seen[-1][0] == "fault" for _, seen in (first, second)]
        if faults[0] != faults[1]:
            return True
        if faults[0]:
            cells_now = [board.active.kept_cells() for board, _ in (first, second)]
            return first[1][-1] == ("fault", "full") == second[1][-1] and cells_now[0] != cells_now[1]
        if first[1] != second[1]:
            kinds = [[told[0] for told in seen] for _, seen in (first, second)]
            return kinds[0] == kinds[1]
        places = [placed_at(made, bases, board.active.place) for bases, (board, _) in zip(pair, (first, second))]
        if places[0] != places[1]:
            return True
        rows = zip(first[0].active.pile, second[0].active.pile)
        return any(not is_both(made, pair, left, right) for left, right in rows)


class Placements(Checks):
    def make(self):
        return program(pushes(1), cells("d", "data", [1, 2, 3]), cells("e", "zero", []), cells("f", "const", [4]))

    def test_right(self):
        made = self.make()
        self.assertEqual([section.size for section in made], [3, 3, 0, 1])
        for bases in ((1, 4, 1, 7), (65532, 1, 65535, 4), [100, 103, 104, 99], (1, 65532, 2, 4), (10, 13, 14, 9)):
            self.assertIsNone(check_placement(made, bases))

    def test_wrong_bases(self):
        made = self.make()
        for number, most in enumerate((65532, 65532, 65535, 65534)):
            for wrong in (0, -1, most + 1, 65536, True, False, None, "5", (5,)):
                bases = [1, 10, 20, 30]
                bases[number] = wrong
                self.fails(BadBases, number, check_placement, made, bases)
            bases = [1, 10, 20, 30]
            bases[number] = most
            self.assertIsNone(check_placement(made, bases))

    def test_shared_addresses(self):
        made = self.make()
        for bases, number in (((1, 3, 9, 10), 1), ((1, 1, 9, 10), 1), ((4, 2, 9, 10), 1), ((1, 4, 5, 6), 3),
                              ((1, 4, 5, 1), 3), ((1, 4, 5, 3), 3), ((5, 5, 0, 5), 1), ((65532, 65530, 1, 1), 1)):
            self.fails(BadBases, number, check_placement, made, bases)
        self.assertIsNone(check_placement(made, (1, 4, 2, 7)))

    def test_lengths(self):
        made = self.make()
        for bases in ((), (1,), (1, 10, 20), (1, 10, 20, 30, 40), (0, 0, 0)):
            self.fails(BadBases, 4, check_placement, made, bases)
            self.fails(BadBases, 4, placed, made, bases)

    def test_overlays(self):
        made = overlaid(self.make(), {"u.d": (0, 0)})
        for bases in ((1, 10, 20, 30), (), (0, 0, 0, 0)):
            self.fails(Overlays, 0, check_placement, made, bases)
            self.fails(Overlays, 0, placed, made, bases)
        self.fails(Overlays, 0, parting, made, [START])
        self.fails(Overlays, 0, parting, made, [("stop",)])

    def test_placed(self):
        first = code("main", [("name", "x", 65535), ("go", "on"), ("unless", "begin"), ("call", "on"), ("bring", "x"),
                              ("far", "p", "s", 0, 0), ("push", 7), ("dup",), ("halt",)], [("begin", 0), ("on", 7)],
                     [("on", 1, 2)])
        made = joined([unit("u", first, cells("t", "const", [5, ("at", "x", 1), ("at", "z", 65535)], [("y", 0)]),
                            cells("d", "data", [6], [("x", 1)]), cells("z", "zero", [0, 0], [("z", 0)]),
                            cells("e", "data", []), kept("k", c=9, b=8))], "on")
        bases = (100, 200, 1, 400, 5, 600)
        setup = placed(made, bases)
        words = code_words("push", 1) + code_words("go wide", 114) + code_words("unless wide", 100)
        words += code_words("call wide", 114) + code_words("bring", 0) + code_words("far", 0) + code_words("push", 7)
        words += code_words("dup") + code_words("halt")
        self.assertEqual(setup, Setup([(100, words, False), (200, (5, 3, 399), False), (1, (6,), True),
                                       (400, (0, 0), True), (600, (9, 8), True)], 114, exports=[("on", 1, 2, 114)],
                                      wants=[("p", "s", 0, 0)], cells=[("b", 601), ("c", 600)]))
        self.fails(BadBases, 1, placed, made, (100, 100, 1, 400, 5, 600))
        told = [placed_at(made, bases, address) for address in (99, 100, 101, 102, 113, 114, 115, 116, 200, 0)]
        self.assertEqual(told, [None, (0, 0), None, (0, 1), None, (0, 7), (0, 8), None, None, None])


def hang_rows():
    """Programs' instructions that hang, with x in a data section of 3 items, y in a const one of 2, e in an empty one,
    and r in a zero section of 2."""
    addresses = [("name", name, offset) for name in ("x", "y", "e", "r")
                 for offset in (0, 1, 2, 3, 4, 300, 32768, 65533, 65534, 65535)]
    words = [("push", word) for word in (0, 1, 2, 3, 4, 5, 300, 32767, 65530, 65531, 65532, 65533, 65534, 65535)]
    values = addresses + words
    for op in ("add", "sub", "mul", "less", "same", "store"):
        for left in values:
            for right in values:
                yield [left, right, (op,)]
    for left in values:
        yield [left, ("load",)]
        yield [left, ("out",)]
        yield [left, ("unless", "begin"), ("push", 1)]
        yield [left, ("push", 5), ("far", "p", "s", 2, 1)]


class Ways(Parted):
    def others(self):
        return [cells("d", "data", [1, 2, 3], [("x", 0)]), cells("t", "const", [4, 5], [("y", 0)]),
                cells("z", "zero", [0, 0], [("r", 0)]), cells("e", "zero", [], [("e", 0)])]

    def test_every_way(self):
        found = {}
        others = self.others()
        for k, items in enumerate(hang_rows()):
            if k % 3 != 0:
                continue
            made = program(items, *others)
            lone = Lone(made)
            if lone.meet(START)[-1] == ("hangs",):
                op = items[-1][0]
                found[op] = found.get(op, 0) + 1
                self.check_pair(made, [START])
        for op in ("add", "sub", "mul", "less", "same", "store", "load", "out", "far"):
            self.assertGreater(found[op], 3, op)

    def test_unless(self):
        for name, size in (("x", 3), ("y", 2), ("e", 0)):
            for offset in (size + 1, size + 2, 300, 40000, 65534, 65535):
                self.check_pair(program([("name", name, offset), ("unless", "begin")], *self.others()), [START])

    def test_saves(self):
        items = [("name", "c", 5), ("name", "c", 0), ("store",), ("save",)]
        made = program(items, kept("k", c=1, d=2))
        self.check_pair(made, [START])
        self.check_pair(made, [START], {f"x{k}": k for k in range(24)})

    def test_back(self):
        section = code("f", [("push", 1), ("name", "x", 1), ("ret",)], [("f", 0)], [("f", 0, 2)])
        made = program([("ask",)], section, cells("d", "data", [1], [("x", 0)]))
        self.check_pair(made, [START, ("call", "f", ())])

    def test_in_calls(self):
        section = code("f", [("name", "x", 1), ("load",), ("ret",)], [("f", 0)], [("f", 0, 1)])
        made = program([("ask",)], section, cells("d", "data", [1], [("x", 0)]))
        self.check_pair(made, [START, ("call", "f", ())])

    def test_products(self):
        """Whatever the words are: also where one step higher would give a product as an address moves."""
        for offset in [*range(65470, 65536), *range(70)]:
            made = program([("name", "x", offset), ("name", "y", 0), ("mul",)], *self.others())
            self.check_pair(made, [START])
            made = program([("name", "x", offset), ("name", "x", offset), ("mul",)], *self.others())
            self.check_pair(made, [START])

    def test_few_sections(self):
        for items in (pushes(5) + [("load",)], pushes(65534) + [("load",)], pushes(1) + [("load",)]):
            self.check_pair(program(items), [START])
        for items in (pushes(9, 5) + [("store",)], pushes(9, 65534) + [("store",)]):
            self.check_pair(program(items, cells("d", "data", [1])), [START])
        for offset in (0, 1, 65533, 65534, 65535):
            made = program([("push", 9), ("name", "e", offset), ("store",)], cells("d", "data", [1]),
                           cells("e", "zero", [], [("e", 0)]))
            self.check_pair(made, [START])
            made = program([("name", "e", offset), ("load",)], cells("e", "zero", [], [("e", 0)]))
            self.check_pair(made, [START])

    def test_large_programs(self):
        rows = [cells(f"s{k}", "data", [k] * 120, [(f"s{k}", 0)]) for k in range(7)]
        more = [unit(name, *[cells(f"s{k}", "zero", [0] * 120, [(f"{name}{k}", 0)]) for k in range(8)])
                for name in ("v", "w", "y")]
        more.append(unit("z", *[code(f"c{k}", [("push", 1)] * 99 + [("halt",)], [(f"z{k}", 0)]) for k in range(8)]))
        chosen = random.Random(6)
        for _ in range(60):
            values = [chosen.choice([("name", chosen.choice(("s1", "v3", "y7")), chosen.choice((0, 5, 120, 121, 65535))),
                                     ("push", chosen.randrange(65536))]) for _ in range(2)]
            op = chosen.choice(("add", "sub", "mul", "less", "same", "store", "load", "out"))
            made = joined([unit("u", code("main", values + [(op,), ("halt",)], [("begin", 0)]), *rows)] + more, "begin")
            self.assertEqual(len(made), 40)
            if Lone(made).meet(START)[-1] == ("hangs",):
                self.check_pair(made, [START])


class NoHangs(Parted):
    def test_no_hang(self):
        made = program([("ask",)])
        for events in ([], [START], (START, ("feed", 1))):
            self.fails(NoHang, len(events), parting, made, events)
        asks = made
        # A row of events hangs at its last one, and at no other.
        made = program(pushes(5) + [("load",)])
        self.fails(NoHang, 2, parting, made, [START, START])
        self.fails(BadEvent, ("feed", -1), parting, asks, [START, ("feed", -1)])
        self.fails(NotNow, ("lost",), parting, asks, [START, ("lost",)])


class Chance(Parted):
    """Programs by chance: boards of several placements against the lone device."""

    def some_items(self, chosen):
        items = [chosen.choice((("push", 40), ("name", "x", 1), ("push", 1), ("name", "y", 65535))) for _ in range(3)]
        for _ in range(chosen.randrange(3, 14)):
            name = chosen.choice(("x", "y", "e", "c"))
            items.append(chosen.choice([
                ("push", chosen.choice((0, 1, 2, 5, 65535, 40))), ("name", name, chosen.choice((0, 1, 2, 3, 65535))),
                ("name", "x", chosen.choice((0, 1, 2))), ("push", 1), ("dup",), ("swap",), ("over",), ("drop",), ("add",),
                ("sub",), ("mul",), ("less",), ("same",), ("load",), ("store",), ("out",), ("ask",), ("save",),
                ("unless", "on"), ("call", "f"), ("far", "p", "s", 1, 1), ("bring", "f")]))
        return items

    def some_program(self, chosen):
        items = self.some_items(chosen)
        second = [*self.some_items(chosen)[:5], ("ret",)]
        return program(items, code("f", second, [("f", 0)], [("f", 1, chosen.randrange(3))]),
                       cells("d", "data", [7, ("at", "y", 1), 3], [("x", 0)]), cells("t", "const", [4, 5], [("y", 0)]),
                       cells("e", "zero", [], [("e", 0)]), kept("k", c=9), symbols=[("on", len(items))])

    def row(self, chosen, made):
        """A row of events up to a hang or so many events, and what the lone device tells."""
        lone = Lone(made)
        events, seen = [], []
        for _ in range(6):
            event = chosen.choice(list(lone.events((0, 1, 40)))) if events else START
            events.append(event)
            seen.append((lone.meet(event), lone.steps))
            if lone.kind == "hangs":
                break
        return events, seen, lone.kind == "hangs"

    def test_programs(self):
        chosen = random.Random(7)
        hangs = 0
        for _ in range(800):
            made = self.some_program(chosen)
            events, seen, hung = self.row(chosen, made)
            if hung:
                hangs += 1
                self.check_pair(made, events)
                continue
            for _ in range(2):
                bases = some_placement(chosen, made)
                board = Board(placed(made, bases))
                for event, told in zip(events, seen):
                    self.assertEqual((board.meet(event), board.steps), told)
        self.assertTrue(150 < hangs < 650, hangs)


class Machines(Checks):
    def test_a_placed_program_runs(self):
        made = program([("name", "x", 1), ("load",), ("out",)], cells("d", "data", [1, 2], [("x", 0)]))
        machine = Machine(placed(made, (50, 10)))
        self.assertEqual([machine.go(9), machine.prints, machine.steps], ["done", [2], 4])


if __name__ == "__main__":
    unittest.main()
