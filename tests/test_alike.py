"""Programs that are alike: [33] to [35]."""

import random
import unittest

from making import made_picked
from checks import Checks, cells, code, kept, program, unit

from romwright.alike import alike, Alphabet, judge_table, Parting, Table
from romwright.joining import joined
from romwright.lay import layings
from romwright.link import link
from romwright.machine import Board
from romwright.named import Lone, met
from romwright.plain import BadAlphabet, BadHome, TooMany

HALT = ("halt",)
OFF = (("off",), ("off",), ())
BITS = Alphabet((0, 1))


def rows_of(made, words, length):
    """All rows up to this length, in their order."""
    level = [()]
    for _ in range(length):
        longer = []
        for row in level:
            device = Lone(made)
            for event in row:
                device.meet(event)
            longer.extend([row + (event,) for event in device.events(words)])
        yield from longer
        level = longer


class Alphabets(Checks):
    def test_words(self):
        for words in ((0,), (5, 0, 65535, 7), (1, 0)):
            made = Alphabet(words)
            self.assertEqual((list(made), len(made)), (list(words), len(words)))
            self.assertTrue(all(word in made for word in words))
            self.assertFalse(9 in made)

    def test_errors(self):
        for words in ((), (0, 1, 2, 3, 4), (1, 1), (3, 2, 3), (65536,), (-1,), (True, 0), ("a",), [0, 1], 5, None, "ab",
                      (0, None)):
            self.fails_same(BadAlphabet, words, Alphabet, words)

    def test_tuples(self):
        made = Alphabet((7, 0, 3))
        self.assertEqual(made(0), [()])
        self.assertEqual(made(1), [(7,), (0,), (3,)])
        self.assertEqual(made(2), [(7, 7), (7, 0), (7, 3), (0, 7), (0, 0), (0, 3), (3, 7), (3, 0), (3, 3)])

    def test_equal(self):
        self.assertEqual(Alphabet((0, 1)), BITS)
        self.assertNotEqual(Alphabet((1, 0)), BITS)
        self.assertFalse(BITS == (0, 1))

    def test_events_take_one(self):
        device = Lone(program([("ask",), ("far", "p", "f", 1, 2)], symbols=[("x", 0)], exports=[("x", 1, 0)]))
        alphabet = Alphabet((4, 2))
        device.meet(("start",))
        self.assertEqual(list(device.events(alphabet)), [("start",), ("feed", 4), ("feed", 2), ("call", "x", (4,)),
                                                         ("call", "x", (2,))])
        device.meet(("feed", 4))
        self.assertEqual(list(device.events(alphabet)), [("start",)] + [("answer", each) for each in alphabet(2)]
                         + [("lost",)])


class Alike(Checks):
    def test_example(self):
        main = code("main", [("name", "count", 0), ("load",), ("out",), HALT], [("begin", 0)])
        one = unit("app", main, kept("store", count=5))
        other = unit("app", main, kept("store", count=6))
        told = alike(joined([one], "begin"), joined([other], "begin"), BITS)
        self.assertIsInstance(told, Parting)
        self.assertEqual([told.row, told.first, told.second],
                         [(("start",),), (("print", 5), ("done",)), (("print", 6), ("done",))])

    def test_offers_that_differ(self):
        first = program([], symbols=[("x", 0)], exports=[("x", 1, 0)])
        for exports in ([], [("x", 0, 0)], [("x", 1, 1)]):
            second = program([], symbols=[("x", 0)], exports=exports)
            told = alike(first, second, BITS)
            self.assertEqual((told.row, told.first, told.second), ((), first.offers, second.offers))
            self.assertEqual(judge_table(first, second, Table(BITS, [OFF])), 0)

    def test_alike_whatever_the_sections(self):
        first = program([("ask",), ("push", 2), ("mul",), ("out",), ("go", "begin")])
        second = joined([unit("z", code("c", [("ask",), ("dup",), ("add",), ("go", "p")], [("begin", 0)]),
                              cells("d", "data", [1, 2]), code("e", [("out",), ("go", "begin")], [("p", 0)]))], "begin")
        told = alike(first, second, BITS)
        self.assertIsInstance(told, Table)
        self.assertEqual((told.alphabet, told.pairs[0], len(told)), (BITS, OFF, 2))
        self.assertIsNone(judge_table(first, second, told))

    def test_later_rows(self):
        items = [("ask",), ("ask",), ("add",), ("push", 2), ("same",), ("unless", "end"), ("push", 9), ("out",)]
        first = program(items, symbols=[("end", 8)])
        second = program(items[:6] + [("push", 8), ("out",)], symbols=[("end", 8)])
        told = alike(first, second, BITS)
        self.assertEqual(told.row, (("start",), ("feed", 1), ("feed", 1)))
        self.assertEqual((told.first, told.second), ((("print", 9), ("done",)), (("print", 8), ("done",))))
        self.assertIsInstance(alike(first, second, Alphabet((0, 5))), Table)
        self.assertEqual(alike(first, second, Alphabet((2, 0))).row, (("start",), ("feed", 2), ("feed", 0)))
        self.assertEqual(alike(first, second, Alphabet((0, 2))).row, (("start",), ("feed", 0), ("feed", 2)))

    def test_records_count(self):
        main = [("name", "k", 0), ("load",), ("push", 2), ("same",), ("unless", "on"), ("push", 7), ("out",),
                ("name", "k", 0), ("load",), ("push", 1), ("add",), ("name", "k", 0), ("store",), ("save",)]
        first = program(main, kept("s", k=0), symbols=[("on", 7)])
        second = program(main[:5] + [("push", 8)] + main[6:], kept("s", k=0), symbols=[("on", 7)])
        told = alike(first, second, BITS)
        self.assertEqual(told.row, (("start",),) * 3)
        self.assertEqual(told.first, (("print", 7), ("save", (("k", 3),)), ("done",)))

    def test_hangs(self):
        hanging = program([("ask",), ("unless", "x"), HALT, ("name", "d", 0), ("out",)], cells("d", "data", [1], [("d", 0)]),
                          symbols=[("x", 3)])
        told = alike(hanging, hanging, Alphabet((1, 0)))
        self.assertEqual((told.row, told.first, told.second),
                         ((("start",), ("feed", 0)), (("hangs",),), (("hangs",),)))
        self.assertIsInstance(alike(hanging, hanging, Alphabet((1, 2))), Table)

    def test_calls_and_lost_answers(self):
        items = [("far", "p", "f", 0, 1), ("name", "d", 0), ("store",), HALT, ("name", "d", 0), ("load",), ("ret",)]
        first = program(items, cells("d", "zero", [0], [("d", 0)]), symbols=[("x", 4)], exports=[("x", 0, 1)])
        second = program(items, cells("d", "data", [3], [("d", 0)]), symbols=[("x", 4)], exports=[("x", 0, 1)])
        self.assertIsInstance(alike(first, second, BITS), Table)
        moved = [("name", "d", 0), ("load",), ("drop",)] + items[:3] + [("push", 5), ("name", "e", 0), ("store",), HALT,
                                                                        ("name", "e", 0), ("load",), ("ret",)]
        third = program(moved, cells("d", "data", [3], [("d", 0)]), cells("e", "data", [3], [("e", 0)]),
                        symbols=[("x", 10)], exports=[("x", 0, 1)])
        told = alike(first, third, BITS)
        self.assertEqual(told.row, (("start",), ("answer", (0,)), ("call", "x", ())))
        self.assertEqual((told.first, told.second), ((("back", (0,)),), (("back", (5,)),)))

    def test_the_least_row(self):
        """Against the definition: programs by chance that differ in one item."""
        found = {}
        for seed in range(40):
            rng = random.Random(seed)
            items = []
            for _ in range(rng.randint(2, 5)):
                items.extend(rng.choice([[("ask",), ("out",)], [("ask",), ("name", "k", 0), ("store",)], [("save",)],
                                         [("name", "k", 0), ("load",), ("out",)], [("ask",), ("unless", "begin")],
                                         [("push", 3), ("out",)], [("far", "p", "f", 0, 1), ("name", "k", 0), ("store",)]]))
            place = rng.randrange(len(items))
            others = items[:place] + [("push", 1)] + items[place + 1:]
            first, second = program(items, kept("s", k=0)), program(others, kept("s", k=0))
            told = alike(first, second, BITS)
            least = None
            for row in rows_of(first, (0, 1), 3):
                one, other = met(first, row), met(second, row)
                if one[-1] != other[-1] or one[-1][-1] == ("hangs",):
                    least = (row, one[-1], other[-1])
                    break
            if least is not None:
                self.assertEqual((told.row, told.first, told.second), least)
            elif isinstance(told, Parting):
                self.assertGreater(len(told.row), 3)
            found[len(told.row) if isinstance(told, Parting) else 0] = True
        self.assertGreater(len(found), 2)

    def test_three_hundred_pairs(self):
        def counting(many):
            # A standing for each number from 0 on, behind feeds; the last one stays.
            body = [("ask",), ("drop",), ("name", "d", 0), ("load",), ("push", many), ("same",), ("unless", "more"),
                    ("go", "begin"), ("name", "d", 0), ("load",), ("push", 1), ("add",), ("name", "d", 0), ("store",),
                    ("go", "begin")]
            return program(body, cells("d", "data", [0], [("d", 0)]), symbols=[("more", 8)])

        one = Alphabet((0,))
        self.assertEqual(len(alike(counting(298), counting(298), one)), 300)
        self.fails(TooMany, 300, alike, counting(299), counting(299), one)
        # A difference that comes ahead of the 301st pair.
        told = alike(counting(299), program([("ask",), ("push", 1), ("out",), ("go", "begin")]), one)
        self.assertEqual(told.row, (("start",), ("feed", 0)))


class Tables(Checks):
    def setUp(self):
        body = [("ask",), ("name", "d", 0), ("store",), ("name", "d", 0), ("load",), ("out",), ("save",), ("go", "begin")]
        rows = [cells("d", "data", [0], [("d", 0)]), kept("s", k=4)]
        self.first = program(body, *rows, symbols=[("x", 8)], exports=[("x", 0, 0)])
        self.second = program([("ask",), ("dup",), ("out",), ("save",), ("name", "d", 0), ("store",), ("go", "begin")],
                              *rows, symbols=[("x", 7)], exports=[("x", 0, 0)])
        self.table = alike(self.first, self.second, BITS)

    def test_table(self):
        self.assertIsInstance(self.table, Table)
        pairs = self.table.pairs
        self.assertEqual((list(self.table), len(self.table)), (list(pairs), len(pairs)))
        self.assertTrue(all(pair in self.table for pair in pairs))
        self.assertFalse((("off",), ("off",), (("k", 4),)) in self.table)
        self.assertEqual(pairs[0], OFF)
        self.assertTrue(any(pair[2] == (("k", 4),) for pair in pairs))
        rows = list(pairs)
        made = Table(BITS, rows)
        rows.clear()
        self.assertEqual(made.pairs, pairs)
        self.assertIsNone(judge_table(self.first, self.second, made))

    def test_order(self):
        """The pairs come in the order in which they are found, row by row."""
        found = [OFF]
        for row in [()] + list(rows_of(self.first, (0, 1), 3)):
            devices = [Lone(self.first), Lone(self.second)]
            for event in row:
                for device in devices:
                    device.meet(event)
            record = tuple(sorted(devices[0].record.items()))
            pair = (devices[0].standing(), devices[1].standing(), record)
            if pair not in found:
                found.append(pair)
        self.assertEqual(self.table.pairs, tuple(found))

    def test_lacking_and_spoilt(self):
        pairs = self.table.pairs
        self.assertEqual(judge_table(self.first, self.second, Table(BITS, [])), 0)
        for place in range(len(pairs)):
            lacking = Table(BITS, pairs[:place] + pairs[place + 1:])
            number = judge_table(self.first, self.second, lacking)
            self.assertEqual(number, 0 if place == 0 else self.first_that_leads_to(lacking.pairs, pairs[place]))
            for wrong in ((pairs[place][0], pairs[place][1], (("k", 9),)), (("fault", "few"), pairs[place][1], ()),
                          (pairs[place][1], pairs[place][0], pairs[place][2]), (("done", (), ()), ("done", (), ()), ())):
                if wrong not in pairs:
                    spoilt = Table(BITS, pairs[:place] + (wrong,) + pairs[place + 1:])
                    number = judge_table(self.first, self.second, spoilt)
                    self.assertIsNotNone(number)
                    self.assertLessEqual(number, place)

    def first_that_leads_to(self, pairs, gone):
        for number, (one, other, record) in enumerate(pairs):
            for event in list(Lone.from_standing(self.first, dict(record), one).events((0, 1))):
                devices = [Lone.from_standing(self.first, dict(record), one),
                           Lone.from_standing(self.second, dict(record), other)]
                for device in devices:
                    device.meet(event)
                if (devices[0].standing(), devices[1].standing(), tuple(sorted(devices[0].record.items()))) == gone:
                    return number
        return None

    def test_more_triples_do_not_harm(self):
        done = (("fault", "few"), ("fault", "few"), ())
        self.assertIsNone(judge_table(self.first, self.second, Table(BITS, self.table.pairs + (done,))))
        other = (("fault", "few"), ("fault", "few"), (("k", 7),))
        # From this record on, other pairs would be needed.
        self.assertEqual(judge_table(self.first, self.second, Table(BITS, self.table.pairs + (other,))), len(self.table))

    def test_offers_that_differ_in_a_closed_table(self):
        first = program([("drop",)], symbols=[("x", 0)], exports=[("x", 0, 0)])
        second = program([("drop",)])
        pairs = [OFF, (("fault", "few"), ("fault", "few"), ())]
        self.assertIsNone(judge_table(first, first, Table(BITS, pairs)))
        self.assertIsNone(judge_table(second, second, Table(BITS, pairs)))
        self.assertEqual(judge_table(first, second, Table(BITS, pairs)), 0)

    def test_triples_that_are_not_so(self):
        """Triples put behind a closed table: other events, other observations, a hang, other forms."""
        made = program([("ask",), ("drop",), ("go", "begin"), ("name", "d", 0), ("load",), ("ret",)],
                       cells("d", "data", [0], [("d", 0)]), symbols=[("x", 3)], exports=[("x", 0, 1)])
        table = alike(made, made, BITS)
        self.assertEqual(len(table), 2)
        asks = table.pairs[1][0]
        one, hang = [asks[:1] + ((None, (value,)),) + asks[2:] for value in (1, (1, 0))]
        few = ("fault", "few")
        self.assertIsNone(judge_table(made, made, Table(BITS, table.pairs + ((few, few, ()),))))
        for wrong in ((asks, few, ()), (few, asks, ()), (asks, one, ()), (one, asks, ()), (hang, hang, ()),
                      (asks, ("off",), ()), (("off",), asks, ())):
            self.assertEqual(judge_table(made, made, Table(BITS, table.pairs + (wrong,))), 2)
        self.assertIsNone(judge_table(made, made, Table(BITS, table.pairs + ((one, one, ()),))))
        # Standings that this program cannot have by their form.
        kind, rows, parts, place, stack, returns = asks
        for other in ((kind, rows, parts), (kind, rows + (None,), parts, place, stack, returns),
                      (kind, rows[:1], parts, place, stack, returns), (kind, (None, (0, 0)), parts, place, stack, returns),
                      (kind, rows, parts, (5, 1), stack, returns), (kind, rows, parts, (2, 1), stack, returns),
                      (kind, rows, parts, (0, 0), stack, returns), (kind, rows, parts, (0, 6), stack, returns),
                      (kind, rows, parts, (0, 2), stack, returns), (kind, rows, parts, (1, 1), stack, returns),
                      ("far", rows, parts, place, stack, returns), ("done", rows, parts, place), ("done", rows[:1], parts)):
            for wrong in ((other, asks, ()), (asks, other, ()), (other, other, ())):
                self.assertEqual(judge_table(made, made, Table(BITS, table.pairs + (wrong,))), 2)

    def test_hangs_are_no_table(self):
        made = program([("push", 5), ("load",)])
        self.assertEqual(judge_table(made, made, Table(BITS, [OFF, (("hangs",), ("hangs",), ())])), 0)

    def test_tables_of_other_programs(self):
        third = program([("ask",), ("out",), ("go", "begin")], symbols=[("x", 3)], exports=[("x", 0, 0)])
        self.assertIsNotNone(judge_table(self.first, third, self.table))
        self.assertIsNotNone(judge_table(third, self.second, self.table))


class Layouts(Checks):
    def test_boards_of_alike_programs(self):
        """Boards tell for every row what lone devices of any alike program tell, and part behind a parting row."""
        parted = same = 0
        for seed in range(60):
            _, _, _, picked = made_picked(seed)
            try:
                told = alike(picked.program, picked.program, Alphabet((0, 7)))
                boards = [Board(link(laying).setup) for laying in list(layings(picked, 5000))[:2]]
            except (TooMany, BadHome):
                continue
            if isinstance(told, Parting):
                self.assertEqual(told.first[-1], ("hangs",))
                parted += 1
                continue
            same += 1
            self.assertIsNone(judge_table(picked.program, picked.program, told))
            for row in list(rows_of(picked.program, (0, 7), 2))[:20]:
                for board in boards:
                    self.assertEqual([board.meet(event) for event in row], met(picked.program, row))
                    board.record.clear()
        self.assertGreater(min(parted, same), 3)


if __name__ == "__main__":
    unittest.main()
