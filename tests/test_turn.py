"""Releases and turns: [38] to [41]."""

import random
import unittest

from making import made_picked, Maker, row_of_events
from checks import Checks, cells, code, kept, unit

from romwright.lay import lay, layings
from romwright.link import link
from romwright.machine import Board
from romwright.maps import read_back
from romwright.named import Lone
from romwright.pick import pick
from romwright.plain import BadBase, BadTurn, name_words, NoName, RomError, TooMany, Twice
from romwright.script import Script
from romwright.turn import Change, Release, Turn
from romwright.units import Section, Unit

HALT = ("halt",)
C, D = code("c", [HALT], [("x", 0)]), cells("d", "data", [1])


def mark_by_hand(words):
    return sum((place + 1) * (word + 1) for place, word in enumerate(words)) % 2 ** 32


def changed(words, place, word):
    return words[:place] + (word,) + words[place + 1:]


def varied(units, rng):
    """Units that differ from these by chance."""
    rows = []
    for each in units:
        sections = list(each.sections)
        if rng.random() < 0.15:
            continue
        if rng.random() < 0.4 and len(sections) > 1:
            sections.pop(rng.randrange(len(sections)))
        if rng.random() < 0.4:
            rng.shuffle(sections)
        if rng.random() < 0.4 and sections:
            at = rng.randrange(len(sections))
            one = sections[at]
            sections[at] = Section(one.name, one.kind, one.body, align=rng.choice([1, 2, 8]), fixed=one.fixed,
                                   symbols=one.symbols, exports=one.exports)
        if rng.random() < 0.4 and not any(one.name == "fresh" for one in sections):
            sections.insert(rng.randint(0, len(sections)), cells("fresh", "const", [rng.randint(0, 9)]))
        rows.append(Unit(each.name, sections))
    if rng.random() < 0.3 and not any(each.name == "zz" for each in rows):
        rows.append(unit("zz", cells("x", "zero", [0] * rng.randint(0, 120))))
    rng.shuffle(rows)
    return rows


class Releases(Checks):
    def test_units(self):
        made = Release([unit("b", C), unit("none"), unit("a", D)])
        self.assertEqual(made.units, (unit("a", D), unit("b", C)))
        self.assertEqual(list(made), [unit("a", D), unit("b", C)])
        self.assertEqual(made["b"], unit("b", C))
        for name in ("none", "c", "b.c"):
            self.fails(NoName, name, made.__getitem__, name)
        self.assertEqual(made, Release([unit("a", D), unit("b", C)]))
        self.assertEqual(made.mark, Release([unit("a", D), unit("b", C)]).mark)
        self.assertNotEqual(made, Release([unit("a", D)]))
        self.assertFalse(made == [unit("a", D), unit("b", C)])
        self.fails(Twice, "a", Release, [unit("b"), unit("b"), unit("a"), unit("c", C), unit("a", D)])
        self.assertEqual(Release([]).units, ())

    def test_words(self):
        items = [("push", 7), ("name", "d", 2), ("far", "p", "q", 2, 1), ("go", "x"), ("unless", "x"), ("call", "x"),
                 ("bring", "d"), ("dup",), ("confirm",), ("ret",)]
        one = code("c", items, [("x", 3), ("w", 0, "weak"), ("l", 3, "local")], [("x", 0, 2)], align=4, fixed=True)
        two = cells("d", "const", [9, ("at", "x2", 4)], [("d", 2)], align=16)
        made = Release([unit("u", one, two, cells("z", "zero", [0, 0], align=2)), unit("a", kept("k", q=6))])
        words = name_words("a") + (1,) + name_words("k") + (4, 1, 1, 0) + name_words("q") + (0, 1, 0, 6)
        words += name_words("u") + (3,) + name_words("c") + (0 + 16 + 64, 10, 3, 1)
        words += name_words("w") + (0, 2) + name_words("l") + (3, 0) + name_words("x") + (3, 1) + name_words("x") + (2,)
        words += (1, 7, 28) + name_words("d") + (2, 22) + name_words("p") + name_words("q") + (9,)
        words += (13,) + name_words("x") + (15,) + name_words("x") + (17,) + name_words("x") + (23,) + name_words("d")
        words += (2, 25, 19)
        words += name_words("d") + (1 + 32, 2, 1, 0) + name_words("d") + (2, 1) + (0, 9, 1) + name_words("x2") + (4,)
        words += name_words("z") + (3 + 8, 2, 0, 0)
        self.assertEqual(made.as_words(), words)
        self.assertEqual(made.mark, mark_by_hand(words))

    def test_marks(self):
        self.assertEqual((Release([]).mark, Release([unit("a")]).mark, Release([]).as_words()), (0, 0, ()))
        # Beyond 2 ** 32 a mark begins again.
        big = [unit(f"z{k}", *[cells(f"s{j}", "const", [65535] * 120) for j in range(8)]) for k in range(10)]
        words = Release(big).as_words()
        self.assertGreater(sum((place + 1) * (word + 1) for place, word in enumerate(words)), 2 ** 32)
        self.assertEqual(Release(big).mark, mark_by_hand(words))


class Differences(Checks):
    def test_new_changed_and_gone_sections(self):
        elder = Release([unit("a", C, D), unit("b", cells("e", "const", [1])), unit("same", cells("s", "const", []))])
        newer = Release([unit("a", code("c", [HALT], [("y", 0)]), cells("n", "zero", [0])), unit("same", cells("s", "const", [])),
                         unit("new", kept("k", w=4))])
        turn = newer - elder
        self.assertEqual((turn.base, turn.result), (elder.mark, newer.mark))
        self.assertEqual(turn.changes, (
            Change("a", "c", code("c", [HALT], [("y", 0)])), Change("a", "d", None), Change("a", "n", cells("n", "zero", [0])),
            Change("b", "e", None), Change("new", "k", kept("k", w=4))))
        self.assertEqual(turn.orders, (("a", ("c", "n")), ("b", ()), ("new", ("k",))))
        self.assertEqual(elder + turn, newer)
        self.assertIsInstance(turn, Turn)
        self.assertEqual([(each.unit, each.name, each.section) for each in turn.changes][1], ("a", "d", None))

    def test_orders_alone(self):
        elder, newer = Release([unit("a", C, D), unit("b", D)]), Release([unit("b", D), unit("a", D, C)])
        turn = newer - elder
        self.assertEqual((turn.changes, turn.orders), ((), (("a", ("d", "c")),)))
        self.assertTrue(bool(turn))
        self.assertEqual(elder + turn, newer)
        self.assertNotEqual(elder, newer)

    def test_a_changed_unit_has_an_order(self):
        elder, newer = Release([unit("a", C, D)]), Release([unit("a", C, cells("d", "data", [2]))])
        turn = newer - elder
        self.assertEqual((turn.changes, turn.orders), ((Change("a", "d", cells("d", "data", [2])),), (("a", ("c", "d")),)))

    def test_nothing(self):
        elder = Release([unit("a", C)])
        turn = Release([unit("none"), unit("a", C)]) - elder
        self.assertEqual((turn.changes, turn.orders, turn.base), ((), (), turn.result))
        self.assertFalse(bool(turn))
        self.assertTrue(bool(Turn(1, 2, (Change("a", "c", None),), ())))
        self.assertTrue(bool(Turn(1, 2, (), (("a", ()),))))
        self.assertEqual(elder + turn, elder)

    def test_by_chance(self):
        for seed in range(80):
            rng = random.Random(seed)
            units = Maker(seed).units(["a", "b", "c", "d"][:rng.randint(1, 4)])
            others = varied(units, rng)
            elder, newer, last = Release(units), Release(others), Release(varied(others, rng))
            turn, later = newer - elder, last - newer
            self.assertEqual((elder + turn, newer + later), (newer, last))
            both = turn | later
            self.assertEqual(elder + both, last)
            self.assertEqual((both.base, both.result), (elder.mark, last.mark))
            told = {(each.unit, each.name) for each in both.changes}
            self.assertTrue(all((each.unit, each.name) in told for each in (last - elder).changes))
            for one in (turn, later, both):
                self.assertEqual(Turn.from_words(one.as_words()), one)
            for number in range(len(turn.changes)):
                # Without a change, a section stays as it was.
                less = Turn(turn.base, turn.result, turn.changes[:number] + turn.changes[number + 1:], turn.orders)
                try:
                    self.assertNotEqual(elder + less, newer)
                except RomError:
                    pass


class PutOn(Checks):
    def test_another_mark(self):
        elder, newer = Release([unit("a", C)]), Release([unit("a", C, D)])
        self.fails(BadBase, newer.mark, newer.__add__, newer - elder)
        self.fails(BadBase, 0, Release([]).__add__, newer - elder)

    def test_what_lacks_and_what_is_not_named(self):
        """The mark decides alone: a release can lack what is to go, and have what no order names."""
        made = Release([unit("a", C, D, cells("e", "const", []))])
        turn = Turn(made.mark, 5, (Change("a", "gone", None), Change("b", "gone", None)), (("a", ("e", "none", "c")),))
        self.assertEqual((made + turn).units, (unit("a", cells("e", "const", []), C, D),))
        # The result's mark is not looked at; a unit that has no sections any more is none.
        turn = Turn(made.mark, 5, [Change("a", "c", None), Change("a", "d", None), Change("a", "e", None)], [])
        self.assertEqual((made + turn).units, ())

    def test_new_sections(self):
        made = Release([unit("a", C)])
        turn = Turn(made.mark, 0, [Change("a", "z", cells("z", "zero", [])), Change("a", "b", cells("b", "const", [])),
                                   Change("q", "d", D)], [])
        self.assertEqual((made + turn).units, (unit("a", C, cells("b", "const", []), cells("z", "zero", [])), unit("q", D)))
        # A changed section stays where it was, if no order says otherwise.
        made = Release([unit("a", C, D)])
        turn = Turn(made.mark, 0, [Change("a", "c", cells("c", "const", []))], [])
        self.assertEqual((made + turn).units, (unit("a", cells("c", "const", []), D),))
        self.assertEqual(made.units, (unit("a", C, D),))

    def test_errors_of_units(self):
        made = Release([unit("a", *[cells(f"s{k}", "const", []) for k in range(8)])])
        self.fails(TooMany, 8, made.__add__, Turn(made.mark, 0, [Change("a", "d", D)], []))
        self.fails(BadBase, made.mark, made.__add__, Turn(made.mark + 1, 0, [Change("a", "d", D)], []))
        made = Release([unit("a", C)])
        twice = Turn(made.mark, 0, [Change("a", "e", code("e", [HALT], [("x", 0)]))], [])
        self.fails(Twice, "x", made.__add__, twice)


class Joined(Checks):
    def test_last_ones(self):
        one = Turn(1, 2, [Change("a", "c", C), Change("a", "d", D)], [("a", ("c", "d")), ("b", ("x",))])
        two = Turn(2, 3, [Change("a", "d", None), Change("b", "c", C)], [("a", ("c",))])
        both = one | two
        self.assertEqual(both, Turn(1, 3, [Change("a", "c", C), Change("a", "d", None), Change("b", "c", C)],
                                    [("a", ("c",)), ("b", ("x",))]))
        self.fails(BadBase, 3, two.__or__, one)
        self.fails(BadBase, 2, one.__or__, one)

    def test_both_groupings(self):
        for seed in range(20):
            rng = random.Random(seed)
            units = Maker(seed).units(["a", "b", "c"])
            rows = [units]
            for _ in range(3):
                rows.append(varied(rows[-1], rng))
            releases = [Release(each) for each in rows]
            one, two, three = [newer - elder for elder, newer in zip(releases, releases[1:])]
            self.assertEqual((one | two) | three, one | (two | three))
            self.assertEqual(releases[0] + (one | two | three), releases[3])

    def test_equal(self):
        one = Turn(1, 2, [Change("a", "c", C), Change("a", "b", None)], [("b", ["x"]), ("a", ["y"])])
        self.assertEqual((one.changes, one.orders),
                         ((Change("a", "b", None), Change("a", "c", C)), (("a", ("y",)), ("b", ("x",)))))
        same = Turn(1, 2, (Change("a", "b", None), Change("a", "c", C)), (("a", ("y",)), ("b", ("x",))))
        self.assertEqual(one, same)
        for other in (Turn(0, 2, one.changes, one.orders), Turn(1, 3, one.changes, one.orders),
                      Turn(1, 2, one.changes[1:], one.orders), Turn(1, 2, one.changes, ()), 5):
            self.assertFalse(one == other)
        self.assertNotEqual(Change("a", "c", C), Change("a", "c", D))
        self.assertNotEqual(Change("a", "c", C), Change("b", "c", C))
        self.assertNotEqual(Change("a", "c", None), Change("a", "d", None))
        self.assertFalse(Change("a", "c", C) == ("a", "c", C))


class Words(Checks):
    def turn(self):
        items = [("name", "d", 2), ("far", "p", "q", 2, 1), ("go", "x"), ("push", 5), HALT]
        one = code("c", items, [("x", 3), ("w", 0, "weak")], [("x", 0, 2)], align=4, fixed=True)
        return Turn(5 * 65536 + 6, 65535, [Change("a", "b", None), Change("a", "c", one), Change("b", "d", cells(
            "d", "const", [9, ("at", "x", 4)])), Change("b", "z", cells("z", "zero", [0] * 120))], [("a", ("c", "q")), ("b", ())])

    def words(self):
        words = (5, 6, 0, 65535, 4) + name_words("a") + (0,) + name_words("b")
        words += name_words("a") + (1,) + name_words("c") + (80, 5, 2, 1)
        words += name_words("w") + (0, 2) + name_words("x") + (3, 1) + name_words("x") + (2, 28) + name_words("d") + (2, 22)
        words += name_words("p") + name_words("q") + (9, 13) + name_words("x") + (1, 5, 26)
        words += name_words("b") + (1,) + name_words("d") + (1, 2, 0, 0, 0, 9, 1) + name_words("x") + (4,)
        words += name_words("b") + (1,) + name_words("z") + (3, 120, 0, 0)
        return words + (2,) + name_words("a") + (2,) + name_words("c") + name_words("q") + name_words("b") + (0,)

    def test_words(self):
        self.assertEqual(self.turn().as_words(), self.words())
        self.assertEqual(Turn.from_words(self.words()), self.turn())
        self.assertEqual(Turn(2 ** 32 - 1, 65536, [], []).as_words(), (65535, 65535, 1, 0, 0, 0))
        self.assertEqual(Turn.from_words((65535, 65535, 1, 0, 0, 0)), Turn(2 ** 32 - 1, 65536, [], []))

    def bad(self, place, *changes):
        words = self.words()
        for at, word in changes:
            words = changed(words, at, word)
        self.fails(BadTurn, place, Turn.from_words, words)

    def test_too_few_and_too_many(self):
        words = self.words()
        last = 0
        for length in range(len(words)):
            with self.assertRaises(BadTurn) as caught:
                Turn.from_words(words[:length])
            self.assertLessEqual(caught.exception.place, length)
            self.assertLessEqual(last, caught.exception.place)
            last = caught.exception.place
        for length in range(5):
            self.fails(BadTurn, length, Turn.from_words, words[:length])
        self.fails(BadTurn, 4, Turn.from_words, words[:7])
        self.fails(BadTurn, len(words), Turn.from_words, words + (0,))
        self.fails(BadTurn, 4, Turn.from_words, (0, 0, 0, 0, 1))
        self.fails(BadTurn, 5, Turn.from_words, (0, 0, 0, 0, 0))

    def test_wrong_words(self):
        words = self.words()
        first, second, third, fourth = 5, 12, 57, 75
        self.assertEqual(words[third:third + 4], name_words("b") + (1,))
        self.assertEqual(words[fourth:fourth + 4], name_words("b") + (1,))
        orders = fourth + 11
        self.assertEqual(words[orders], 2)
        # Names: the place of the first of the three.
        for place in (first, first + 4, second, second + 4, 23, 28, 33, 38, 43, 46, 51, third, third + 4, orders + 1,
                      orders + 5, orders + 8, orders + 11):
            self.bad(place, (place, 0), (place + 1, 0), (place + 2, 0))
            self.bad(place, (place + 2, 1))
        # Counts.
        for place in (4, 20, 21, 22, third + 8, third + 9, third + 10, fourth + 9, fourth + 10, orders, orders + 4, orders + 14):
            self.bad(place, (place, 65535))
            self.bad(place, (place, len(words) - place))
        # 0 or 1.
        for place in (first + 3, second + 3, third + 3, third + 11, third + 13):
            for word in (2, 65535):
                self.bad(place, (place, word))
        # Kinds, bindings, effects.
        for word in (5, 40, 67, 128):
            self.bad(19, (19, word))
        for place in (27, 32):
            self.bad(place, (place, 3))
        for place in (36, 49):
            for word in (3, 7, 12):
                self.bad(place, (place, word))
        # Numbers of instructions.
        for word in (0, 14, 16, 18, 27, 29, 256, 65535):
            self.bad(37, (37, word))
            self.bad(56, (56, word))

    def test_sections_that_break_the_rules(self):
        second, third, fourth = 12, 57, 75
        # The place of the section's first word: its name's.
        self.bad(second + 4, (31, 5))
        self.bad(second + 4, (56, 2))
        self.bad(second + 4, (23, 24 * 1600))
        self.bad(fourth + 4, (fourth + 8, 121))
        self.bad(fourth + 4, (fourth + 8, 65535))
        self.bad(third + 4, (third + 7, 4))
        # An export of a symbol that is not global.
        self.bad(second + 4, (32, 2))

    def test_ascending(self):
        first, second, orders = 5, 12, 86
        # The changes of two sections in turn; twice the same one; two units.
        self.bad(second, (first + 4, name_words("d")[0]))
        self.bad(second, (first + 4, name_words("c")[0]))
        self.bad(second, (first, name_words("b")[0]))
        # Ahead of what is wrong in it.
        self.bad(second, (first + 4, name_words("d")[0]), (second + 7, 7))
        self.bad(second, (first, name_words("b")[0]), (second + 3, 2))
        self.bad(orders + 11, (orders + 1, name_words("b")[0]))
        self.bad(orders + 11, (orders + 1, name_words("c")[0]))


class Devices(Checks):
    def test_from_contents_to_newer_releases(self):
        """[41]: a turn put on what is read back gives the newer release, whose boards tell what its lone device tells."""
        count = 0
        for seed in range(60):
            script, _, _, picked = made_picked(seed)
            rng = random.Random(seed)
            elder = link(rng.choice(list(layings(picked, 5000))[:3]))
            units = read_back(5000, elder.content, elder.map)
            newer = Release(varied(units, rng))
            turn = Turn.from_words((newer - Release(units)).as_words())
            made = Release(read_back(5000, elder.content, elder.map)) + turn
            self.assertEqual(made, newer)
            try:
                again = pick(script, list(made))
                boards = [Board(link(laying).setup) for laying in list(layings(again, 20001))[:2]]
            except RomError:
                continue
            events, told = row_of_events(Lone(again.program), rng, 5)
            if told[-1][-1] == ("hangs",):
                events, told = events[:-1], told[:-1]
            for board in boards:
                self.assertEqual([board.meet(event) for event in events], told)
                count += 1
        self.assertGreater(count, 20)

    def test_one_turn_for_all_layouts(self):
        lines = ["region flash rom 16 100", "region work ram 1 20", "place text in flash align 1 fill 0 take *.[code]",
                 "place vars in work load flash align 1 fill 0 take *.*", "entry begin"]
        other = ["region flash rom 40 100", "region work ram 7 20", "free text in flash align 8 fill 3 take *.[code]",
                 "place vars in work load flash align 4 fill 1 take *.*", "entry begin"]
        main = code("main", [("name", "k", 0), ("load",), ("out",), HALT], [("begin", 0)])
        newer = code("main", [("name", "k", 0), ("load",), ("push", 1), ("add",), ("out",), HALT], [("begin", 0)])
        elder = [unit("a", main, kept("s", k=5))]
        turn = Release([unit("a", newer, kept("s", k=5))]) - Release(elder)
        for script, home in ((Script(lines), 1000), (Script(other), 30000)):
            made = link(lay(pick(script, elder), home))
            units = list(Release(read_back(home, made.content, made.map)) + turn)
            board = Board(link(lay(pick(script, units), home + 1024)).setup, {"k": 8})
            self.assertEqual(board.meet(("start",)), (("print", 9), ("done",)))


if __name__ == "__main__":
    unittest.main()
