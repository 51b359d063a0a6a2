"""Promises [13] and [14]."""

import unittest

from checks import Checks
from romwright.machine import Board, code_words, decoded, Machine, Setup
from romwright.named import Lone
from romwright.plain import Astray, BadEvent, BadItem, NotNow

NUMBERS = {"push": 1, "dup": 2, "drop": 3, "swap": 4, "over": 5, "add": 6, "sub": 7, "mul": 8, "less": 9, "same": 10,
           "load": 11, "store": 12, "go short": 13, "go wide": 14, "unless short": 15, "unless wide": 16,
           "call short": 17, "call wide": 18, "ret": 19, "out": 20, "ask": 21, "far": 22, "bring": 23, "save": 24,
           "confirm": 25, "halt": 26, "hop": 27}
LONG = ("push", "go wide", "unless wide", "call wide", "far", "bring", "hop")
START = ("start",)


def words(*rows):
    """The words of instructions: each an op, or (op, operand)."""
    told = []
    for row in rows:
        told.extend(code_words(row) if isinstance(row, str) else code_words(*row))
    return tuple(told)


def machine(*rows, first=100, data=(), **more):
    """A machine with this code at an address, and writable words at 500."""
    stretches = [(first, words(*rows), False)]
    if data:
        stretches.append((500, data, True))
    return Machine(Setup(stretches, first, **more))


class Coding(Checks):
    def test_there_and_back(self):
        for name, number in NUMBERS.items():
            if name.endswith(" short"):
                for low in (-128, -1, 0, 1, 127):
                    told = (number * 256 + low % 256,)
                    self.assertEqual(code_words(name, low), told)
                    self.assertEqual(decoded(told + (5,)), (name, (low,)))
            elif name in LONG:
                for word in (0, 1, 65535):
                    self.assertEqual(code_words(name, word), (number * 256, word))
                    self.assertEqual(decoded((number * 256, word, 9)), (name, (word,)))
                self.assertIsNone(decoded((number * 256,)))
            else:
                self.assertEqual(code_words(name), (number * 256,))
                self.assertEqual(decoded((number * 256,)), (name, ()))

    def test_wrong_instructions(self):
        for name in ("name", "go", "unless", "call", "", "Push", "push ", "go  short", None, 1, True, ("push",), ["push"]):
            self.fails(BadItem, 0, code_words, name)
            self.fails(BadItem, 0, code_words, name, 1)
        for name in NUMBERS:
            takes = 1 if name in LONG or name.endswith("short") else 0
            for count in range(4):
                if count != takes:
                    self.fails(BadItem, 0, code_words, name, *[1] * count)

    def test_wrong_operands(self):
        for name in NUMBERS:
            if name in LONG:
                for wrong in (-1, 65536, True, False, None, "1", (1,)):
                    self.fails(BadItem, 1, code_words, name, wrong)
            elif name.endswith("short"):
                for wrong in (-129, 128, True, False, None, "1", (1,), 65535):
                    self.fails(BadItem, 1, code_words, name, wrong)

    def test_words_of_no_form(self):
        self.assertIsNone(decoded(()))
        known = {number: name for name, number in NUMBERS.items()}
        for number in range(256):
            for low in (0, 1, 127, 128, 255):
                told = decoded((number * 256 + low, 7))
                name = known.get(number)
                if name is None or (low != 0 and not name.endswith("short")):
                    self.assertIsNone(told)
                else:
                    self.assertEqual(told[0], name)
                    self.assertEqual(code_words(told[0], *told[1]), (number * 256 + low, 7)[:2 if name in LONG else 1])


class Setups(Checks):
    def test_attributes(self):
        rows = [[100, [1, 2], True]]
        made = Setup(rows, 100, exports=[("f", 0, 1, 100)], wants=[("p", "s", 0, 0)], cells=[("c", 101)],
                     parts=[(0, [(200, [5], False)])])
        rows[0][1].append(3)
        rows.clear()
        self.assertEqual([made.stretches, made.entry, made.exports, made.wants, made.cells, made.parts],
                         [((100, (1, 2), True),), 100, (("f", 0, 1, 100),), (("p", "s", 0, 0),), (("c", 101),),
                          ((0, ((200, (5,), False),)),)])
        self.assertEqual(Setup([], 5).parts, ())

    def test_equality(self):
        made = Setup([(100, (1, 2), True)], 100)
        self.assertEqual(made, Setup(((100, [1, 2], True),), 100))
        for other in (Setup([(100, (1, 2), False)], 100), Setup([(100, (1, 2), True)], 101), None,
                      Setup([(100, (1, 2), True)], 100, exports=[("f", 0, 0, 1)]), Setup([], 100),
                      Setup([(100, (1, 2), True)], 100, wants=[("f", "g", 0, 1)]),
                      Setup([(100, (1, 2), True)], 100, cells=[("f", 100)]),
                      Setup([(100, (1, 2), True)], 100, parts=[(0, ())])):
            self.assertNotEqual(made, other)


class Memory(Checks):
    def test_words(self):
        made = Machine(Setup([(100, (1, 2), False), (200, (3,), True)], 100))
        self.assertEqual([made[100], made[101], made[200], 101 in made, 102 in made, 0 in made], [1, 2, 3, True, False,
                                                                                                False])
        for address in (99, 102, 0, 65535, 201):
            self.fails(Astray, address, lambda at: made[at], address)

    def test_record(self):
        setup = Setup([(100, words("halt"), False), (200, (3, 4), True)], 100, cells=[("c", 201), ("d", 200)])
        made = Machine(setup, {"c": 9, "x": 5})
        self.assertEqual([made[200], made[201]], [3, 9])
        self.assertEqual(Machine(setup)[201], 4)


class Steps(Checks):
    def leaves(self, rows, *stack, data=(7, 8)):
        made = machine(*rows, "halt", data=data)
        self.assertEqual([made.go(len(rows)), made.stack, made.steps], ["runs", stack, len(rows)])
        self.assertEqual(made.go(5), "done")

    def faults(self, reason, *rows, steps=None, **more):
        made = machine(*rows, **more)
        self.assertEqual([made.go(1000), made.reason], ["fault", reason])
        if steps is not None:
            self.assertEqual(made.steps, steps)

    def test_values(self):
        def pushed(*values):
            return [("push", value) for value in values]
        self.leaves(pushed(65535, 2) + ["add"], 1)
        self.leaves(pushed(1, 2) + ["sub"], 65535)
        self.leaves(pushed(300, 300) + ["mul"], 90000 - 65536)
        self.leaves(pushed(1, 65535) + ["less"], 1)
        self.leaves(pushed(5, 5) + ["less"], 0)
        self.leaves(pushed(5, 5) + ["same"], 1)
        self.leaves(pushed(5, 6) + ["same"], 0)
        self.leaves(pushed(1, 2) + ["swap", "over", "dup"], 2, 1, 2, 2)
        self.leaves(pushed(1, 2) + ["drop"], 1)
        self.leaves(pushed(501) + ["load"], 8)
        self.leaves(pushed(100) + ["load"], 256)
        self.leaves(pushed(9, 500) + ["store"] + pushed(500) + ["load"], 9)

    def test_branches(self):
        for name, operand in (("go short", 1), ("go wide", 102 + 1), ("call short", 1), ("call wide", 103)):
            made = machine((name, operand), "dup", "halt")
            behind = 101 if name.endswith("short") else 102
            target = behind + 1 if name.endswith("short") else 103
            self.assertEqual([made.step(), made.place], ["runs", target])
            self.assertEqual(made.returns, (behind,) if name.startswith("call") else ())
        for word, name, operand, place in ((0, "unless short", 5, 108), (1, "unless short", 5, 103),
                                           (0, "unless wide", 7, 7), (1, "unless wide", 7, 104),
                                           (65535, "unless short", 5, 103)):
            made = machine(("push", word), (name, operand))
            self.assertEqual([made.go(2), made.place, made.stack], ["runs", place, ()])
        made = machine(("go short", -1))
        self.assertEqual([made.go(50), made.place, made.steps], ["runs", 100, 50])

    def test_short_branches_wrap(self):
        made = machine(("go short", -128), first=5)
        self.assertEqual([made.step(), made.place], ["runs", (6 - 128) % 65536])
        self.assertEqual([made.step(), made.reason, made.steps], ["fault", "astray", 2])

    def test_ret_and_calls(self):
        made = machine(("call wide", 103), "halt", ("push", 1), "ret")
        self.assertEqual([made.go(99), made.steps, made.stack], ["done", 4, (1,)])
        self.assertEqual(machine("ret").go(5), "done")
        self.faults("deep", ("call wide", 100), steps=33)

    def test_rests(self):
        made = machine("ask", "out", ("push", 3), ("far", 1), "out", "save", "confirm", "halt",
                       wants=[("p", "r", 0, 0), ("p", "s", 1, 1)])
        self.assertEqual([made.go(9), made.place], ["asks", 101])
        made.give(6)
        self.assertEqual([made.go(9), made.asked(), made.prints], ["far", ("p", "s", (3,), 1), [6]])
        made.give(5)
        self.assertEqual([made.go(9), made.prints], ["saves", [6, 5]])
        made.give()
        self.assertEqual(made.go(9), "confirms")
        made.give()
        self.assertEqual([made.go(9), made.steps, made.reason], ["done", 8, None])

    def test_astray(self):
        self.faults("astray", ("push", 1), steps=2)
        self.faults("astray", ("go wide", 300), steps=2)
        self.faults("astray", ("push", 99), "load", steps=2)
        self.faults("astray", ("push", 0), "load")
        self.faults("astray", ("push", 65535), "load")
        self.faults("astray", ("push", 1), ("push", 99), "store", steps=3)
        self.faults("astray", ("push", 1), ("push", 100), "store", steps=3)
        made = Machine(Setup([(100, (256,), False)], 100))
        self.assertEqual([made.go(5), made.reason, made.steps], ["fault", "astray", 1])

    def test_word(self):
        for wrong in (0, 1, 255, 257, 28 * 256, 65535, 2 * 256 + 1, 26 * 256 + 255, 27 * 256 + 1, 14 * 256 + 1):
            made = Machine(Setup([(100, (wrong, 0), False)], 100))
            self.assertEqual([made.go(5), made.reason, made.steps], ["fault", "word", 1])

    def test_numbers(self):
        wants = [("p", "s", 0, 0)]
        self.assertEqual(machine(("far", 0), wants=wants).go(5), "far")
        self.faults("word", ("far", 1), wants=wants)
        self.faults("word", ("far", 65535), wants=wants)
        self.faults("word", ("far", 0))
        self.assertEqual(machine(("bring", 0), "halt").go(5), "done")
        self.faults("word", ("bring", 1))
        self.assertEqual(machine(("bring", 1), "halt", parts=[(0, ())]).go(5), "done")
        self.faults("word", ("bring", 2), parts=[(0, ())])

    def test_few_many_and_order(self):
        self.faults("few", "drop", steps=1)
        self.faults("few", ("far", 0), wants=[("p", "s", 1, 2)])
        self.faults("many", *[("push", 1)] * 65, steps=65)
        self.faults("many", *[("push", 1)] * 64, ("far", 0), wants=[("p", "s", 0, 1)])
        # A number of no want goes ahead of few, a missing second word ahead of the number.
        self.faults("word", ("far", 1), wants=[("p", "s", 1, 2)])
        made = Machine(Setup([(100, (22 * 256,), False)], 100, wants=[("p", "s", 1, 2)]))
        self.assertEqual([made.go(5), made.reason], ["fault", "astray"])
        # The word goes ahead of a missing second one, and few ahead of astray.
        made = Machine(Setup([(100, (14 * 256 + 1,), False)], 100))
        self.assertEqual([made.go(5), made.reason], ["fault", "word"])
        self.faults("few", "load")
        self.faults("few", ("push", 1), "store")
        made = Machine(Setup([(100, (16 * 256,), False)], 100))
        self.assertEqual([made.go(5), made.reason], ["fault", "astray"])

    def test_hops(self):
        made = machine(("hop", 103), "halt", ("push", 5), ("hop", 102))
        self.assertEqual([made.step(), made.place, made.stack, made.steps], ["runs", 105, (5,), 1])
        self.assertEqual([made.step(), made.steps], ["done", 2])
        self.faults("hop", ("hop", 102), ("hop", 104), "halt", steps=1)
        self.faults("hop", ("hop", 100), steps=1)
        self.faults("astray", ("hop", 200), steps=1)
        made = Machine(Setup([(100, (27 * 256,), False)], 100))
        self.assertEqual([made.go(5), made.reason], ["fault", "astray"])
        # Of the second hop the first word alone is fetched.
        made = Machine(Setup([(100, (27 * 256, 102, 27 * 256), False)], 100))
        self.assertEqual([made.go(5), made.reason], ["fault", "hop"])
        made = Machine(Setup([(100, (27 * 256, 102, 27 * 256 + 1), False)], 100))
        self.assertEqual([made.go(5), made.reason], ["fault", "word"])
        made = machine(("hop", 102), ("go short", 1), "dup", "halt")
        self.assertEqual([made.step(), made.place], ["runs", 104])

    def test_hop_prints_at_its_target(self):
        board = Board(Setup([(100, words(("push", 1), ("hop", 104), "out", "halt"), False)], 100))
        self.assertEqual([board.meet(START), board.printed_at], [(("print", 1), ("done",)), (104,)])


class Parts(Checks):
    def make(self, *rows):
        parts = [(0, [(500, words(("push", 1), "out", "ret"), False), (510, (7,), True)]),
                 (0, [(500, words(("push", 2), "out", "ret"), False), (520, (8, 9), True)]),
                 (1, [(600, words("ret"), False)])]
        return machine(*rows, "halt", parts=parts)

    def test_parts(self):
        made = self.make(("call wide", 500))
        self.assertEqual([made.go(9), made.reason, made.steps], ["fault", "astray", 2])
        made = self.make(("bring", 1), ("call wide", 500), ("bring", 2), ("call wide", 500))
        self.assertEqual([made.go(50), made.prints], ["done", [1, 2]])
        self.assertEqual([510 in made, 520 in made, made[521]], [False, True, 9])

    def test_words_anew(self):
        store = [("push", 5), ("push", 510), "store"]
        show = [("push", 510), "load", "out"]
        self.assertEqual(self.shown(("bring", 1), *store, ("bring", 1), *show), [5])
        self.assertEqual(self.shown(("bring", 1), *store, ("bring", 2), ("bring", 1), *show), [7])
        self.assertEqual(self.shown(("bring", 1), *store, ("bring", 3), *show), [5])
        self.assertEqual(self.shown(("bring", 1), *store, ("bring", 0), *show), [5])

    def shown(self, *rows):
        made = self.make(*rows)
        made.go(50)
        return made.prints

    def test_groups(self):
        made = self.make(("bring", 1), ("bring", 3), ("call wide", 600), ("call wide", 500))
        self.assertEqual([made.go(50), made.prints], ["done", [1]])

    def test_two_machines_of_one_setup(self):
        first = self.make(("bring", 1), ("push", 5), ("push", 510), "store")
        first.go(50)
        second = Machine(first.setup)
        self.assertEqual([first[510], 510 in second], [5, False])


class Boards(Checks):
    def board(self, record=None, limit=None):
        code = words("ask", "out", "save", "confirm", ("push", 1), ("push", 200), "store", "halt", "ret", ("push", 3),
                     "ret", ("far", 0), "ret")
        setup = Setup([(100, code, False), (200, (4, 5), True)], 100, cells=[("z", 200), ("c", 201)],
                      wants=[("p", "s", 0, 0)], exports=[("f", 1, 1, 110), ("g", 0, 0, 111), ("h", 0, 0, 114)])
        return Board(setup, record, limit)

    def test_events(self):
        board = self.board({"c": 9})
        self.assertEqual([board.kind, board.steps, board.confirmed, board.limit, board.printed_at],
                         ["off", 0, False, None, ()])
        self.assertEqual([board.offers, board.wants], [(("f", 1, 1), ("g", 0, 0), ("h", 0, 0)), (("p", "s", 0, 0),)])
        self.fails(NotNow, ("feed", 1), board.meet, ("feed", 1))
        self.assertEqual(board.meet(START), (("asks",),))
        self.assertEqual(board.meet(("call", "f", (8,))), (("back", (8,)),))
        self.assertEqual(board.meet(("feed", 7)), (("print", 7), ("save", (("c", 9), ("z", 4))), ("confirm",), ("done",)))
        self.assertEqual([board.printed_at, board.record, board.confirmed, board.steps],
                         [(101,), {"c": 9, "z": 4}, True, 9])
        self.assertEqual(board.meet(("call", "g", ())), (("fault", "effect"),))
        self.fails(BadEvent, ("call", "f", ()), board.meet, ("call", "f", ()))
        self.assertEqual(board.meet(START), (("asks",),))
        self.assertEqual(board.meet(("call", "h", ())), (("fault", "now"),))

    def test_limits(self):
        board = self.board(None, 3)
        board.meet(START)
        self.assertEqual(board.meet(("feed", 1)), (("print", 1), ("save", (("c", 5), ("z", 4))), ("late",)))
        self.assertEqual([board.kind, board.limit], ["late", 3])
        loop = Board(Setup([(100, words(("go wide", 100)), False)], 100))
        self.assertEqual([loop.meet(START), loop.steps], [(("runs",),), 2000])

    def test_record(self):
        record = {"c": 9}
        board = self.board(record)
        record["c"] = 1
        self.assertEqual(board.record, {"c": 9})
        self.assertIsInstance(board, Board)
        self.assertNotIsInstance(board, Lone)


if __name__ == "__main__":
    unittest.main()
