"""The shapes of places: [23]."""

import itertools
import unittest

from making import made_picked
from checks import Checks, cells, code, pushes, unit

from romwright.forms import Shape, shape_with, shaped, unreached
from romwright.joining import joined

HALT = ("halt",)


def made(*sections):
    """A program of one unit a; the first section begins at `begin`."""
    return joined([unit("a", *sections)], "begin")


def padding(words):
    """Instructions with so many words."""
    return [("push", 0)] * (words // 2) + [("ret",)] * (words % 2)


def forward(distance, op="go", **more):
    """A section whose first instruction branches so far ahead."""
    items = [("push", 0), (op, "t"), *padding(distance), HALT]
    return code("main", items, [("begin", 0), ("t", len(items) - 1)], **more)


def backward(distance, **more):
    """A section whose last instruction branches back: the target less the address behind it."""
    items = [*padding(-distance - 1), ("go", "begin")]
    return code("main", items, [("begin", 0)], **more)


def fill(name, words):
    return cells(name, "const", [0] * words)


class Reaches(Checks):
    def rounds(self, section):
        return shaped(made(section), (0,)).rounds

    def test_forward(self):
        self.assertEqual(self.rounds(forward(0)), {})
        self.assertEqual(self.rounds(forward(127)), {})
        self.assertEqual(self.rounds(forward(128)), {(0, 1): 1})
        self.assertEqual(self.rounds(forward(128, "unless")), {(0, 1): 1})
        self.assertEqual(self.rounds(forward(128, "call")), {(0, 1): 1})

    def test_backward(self):
        self.assertEqual(self.rounds(backward(-128)), {})
        self.assertEqual(self.rounds(backward(-129)), {(0, 64): 1})

    def test_sizes(self):
        self.assertEqual(shaped(made(forward(127)), (0,)).size, 2 + 1 + 127 + 1)
        self.assertEqual(shaped(made(forward(128)), (0,)).size, 2 + 2 + 128 + 1)
        self.assertEqual(shaped(made(backward(-128)), (0,)).sizes, (128,))
        self.assertEqual(shaped(made(backward(-129)), (0,)).sizes, (130,))

    def test_unreached(self):
        program = made(forward(128), code("other", [("call", "begin"), ("call", "u"), HALT], [("u", 0)]))
        shape = shape_with(program, (0,), [])
        self.assertEqual(unreached(program, shape), [(0, 1)])
        self.assertEqual(unreached(program, shape_with(program, (0,), [(0, 1)])), [])
        # Another place is not reached; the list ascends, whatever the order of the place.
        self.assertEqual(unreached(program, shape_with(program, (1,), [])), [(1, 0)])
        self.assertEqual(unreached(program, shape_with(program, (1, 0), [])), [(0, 1)])
        both = made(forward(128), code("other", [("call", "m"), *padding(130), HALT], [("m", 66)]))
        self.assertEqual(unreached(both, shape_with(both, (1, 0), [])), [(0, 1), (1, 0)])


class Rounds(Checks):
    def test_round_nought(self):
        program = made(code("main", [("call", "u"), ("go", "begin")], [("begin", 0)]), code("other", [HALT], [("u", 0)]))
        self.assertEqual(shaped(program, (0,)).rounds, {(0, 0): 0})
        self.assertEqual(shaped(program, (0, 1)).rounds, {})
        self.assertEqual(shaped(program, [1, 0]).rounds, {})

    def test_branches_become_wide_because_others_did(self):
        # The first branch just reaches while the second one is short, and the second while the third is.
        rows = [code("a", [("go", "x")], [("begin", 0)]), fill("b", 100), code("c", [("go", "y")]), fill("d", 26),
                code("e", [("ret",)], [("x", 0)]), fill("f", 90), code("g", [("go", "z")]), fill("h", 9)]
        more = [code("a", [("ret",)], [("y", 0)]), fill("b", 118), code("c", [HALT], [("z", 0)])]
        program = joined([unit("a", *rows), unit("b", *more)], "begin")
        shape = shaped(program, tuple(range(11)))
        self.assertEqual(shape.rounds, {(0, 0): 3, (2, 0): 2, (6, 0): 1})
        self.assertEqual(shape.size, 2 + 100 + 2 + 26 + 1 + 90 + 2 + 9 + 1 + 118 + 1)
        self.assertEqual(shape.offsets[-1], shape.size - 1)

    def test_alone_they_stay_short(self):
        items = [("go", "x"), *padding(100), ("go", "begin"), *padding(26), HALT]
        program = made(code("main", items, [("begin", 0), ("x", len(items) - 1)]))
        self.assertEqual(shaped(program, (0,)).rounds, {})
        wide = shape_with(program, (0,), [(0, 51)])
        self.assertEqual((wide.rounds, unreached(program, wide)), ({(0, 51): 0}, [(0, 0)]))

    def test_every_other_choice_has_all_of_these(self):
        """For places whose alignments are 1: the forms are the least ones by which all short branches reach."""
        program = made(
            code("main", [("go", "p"), *padding(60), ("go", "q"), *padding(60), ("unless", "r"), HALT],
                 [("begin", 0), ("r", 3)]),
            code("mid", [*padding(6), ("call", "r"), HALT], [("p", 0)], fixed=True),
            code("end", [("go", "begin"), *padding(70), HALT], [("q", 1)]))
        branches = [(number, place) for number, section in enumerate(program) for place, item in enumerate(section.body)
                    if item[0] in ("go", "unless", "call")]
        for numbers in itertools.permutations((0, 1, 2)):
            shape = shaped(program, numbers)
            self.assertEqual(unreached(program, shape), [])
            for count in range(len(branches) + 1):
                for wide in itertools.combinations(branches, count):
                    if unreached(program, shape_with(program, numbers, list(wide))) == []:
                        self.assertLessEqual(set(shape.rounds), set(wide))

    def test_by_chance(self):
        for seed in range(60):
            script, _, _, picked = made_picked(seed, seed >= 30)
            program = picked.program
            for place in script.places:
                numbers = picked.in_place(place.name)
                shape = shaped(program, numbers, place.align)
                self.assertEqual(unreached(program, shape), [])
                last = max([0, *shape.rounds.values()])
                for turn in range(last):
                    # Behind each round, what does not reach becomes wide in the next one.
                    now = [branch for branch in shape.rounds if shape.rounds[branch] <= turn]
                    partly = shape_with(program, numbers, now, place.align)
                    self.assertEqual(unreached(program, partly),
                                     sorted(branch for branch in shape.rounds if shape.rounds[branch] == turn + 1))
                none = shape_with(program, numbers, [], place.align)
                far = [branch for branch in unreached(program, none) if shape.rounds.get(branch) == 0]
                self.assertEqual(far, sorted(branch for branch in shape.rounds if shape.rounds[branch] == 0))


class Veneers(Checks):
    def test_targets(self):
        first = code("main", [("call", "u"), ("unless", "v"), ("call", "u"), ("go", "w")], [("begin", 0), ("w", 1)],
                     fixed=True)
        program = made(first, code("other", [("push", 1), ("call", "u"), HALT], [("u", 1), ("v", 0)]))
        shape = shaped(program, (0,))
        self.assertEqual(shape.veneers, (((1, 1), (1, 0)),))
        self.assertEqual(shape.rounds, {(0, 0): 0, (0, 1): 0, (0, 2): 0})
        # Short branches, and a hop of two words for each target.
        self.assertEqual((shape.sizes, shape.size), ((4 + 4,), 8))
        both = shaped(program, (0, 1))
        self.assertEqual((both.veneers, both.sizes, both.rounds), (((), ()), (4, 4), {}))
        wide = shape_with(program, (0, 1), [(0, 2), (1, 1)])
        self.assertEqual((wide.veneers, wide.sizes), ((((1, 1),), ()), (6, 5)))

    def test_order_of_the_first_branches(self):
        first = code("main", [("call", "v"), ("call", "u"), ("call", "v"), HALT], [("begin", 0)], fixed=True)
        program = made(first, code("other", [HALT], [("u", 0)]), code("third", [HALT], [("v", 0)]))
        self.assertEqual(shaped(program, (0,)).veneers, (((2, 0), (1, 0)),))
        self.assertEqual(shaped(program, (0, 2)).veneers, (((1, 0),), ()))

    def test_far_within_a_place(self):
        first = code("main", [("go", "u")], [("begin", 0)], fixed=True)
        program = made(first, code("mid", [*padding(128), ("ret",)]), code("other", [HALT], [("u", 0)]))
        self.assertEqual(shaped(program, (0, 1, 2)).rounds, {(0, 0): 1})
        self.assertEqual(shaped(program, (0, 1, 2)).veneers, (((2, 0),), (), ()))
        self.assertEqual(shaped(program, (0, 1, 2)).offsets, (0, 3, 132))
        self.assertEqual(shaped(program, (1, 0, 2)).rounds, {})


class Offsets(Checks):
    PROGRAM = made(code("main", [("push", 1), HALT], [("begin", 0)], align=2), cells("k", "const", [1] * 5, align=4),
                   cells("e", "const", [], align=16), cells("z", "zero", [0, 0]))

    def test_alignments(self):
        shape = shaped(self.PROGRAM, (0, 1, 3))
        self.assertEqual((shape.sections, shape.offsets, shape.sizes), ((0, 1, 3), (0, 4, 9), (3, 5, 2)))
        self.assertEqual((shape.size, shape.align), (11, 4))
        self.assertEqual(shaped(self.PROGRAM, (3, 1, 0)).offsets, (0, 4, 10))
        self.assertEqual(shaped(self.PROGRAM, (3, 1, 0), 8).align, 8)
        self.assertEqual(shaped(self.PROGRAM, (3,), 1).align, 1)
        self.assertEqual(shaped(self.PROGRAM, (3,)).align, 1)
        one = made(code("main", [HALT], [("begin", 0)], align=4))
        self.assertEqual((shaped(one, (0,)).size, shaped(one, (0,)).align, shaped(one, (0,), 8).align), (1, 4, 8))

    def test_empty_sections(self):
        last = shaped(self.PROGRAM, (1, 2))
        self.assertEqual((last.offsets, last.size, last.align), ((0, 16), 16, 16))
        first = shaped(self.PROGRAM, (2, 1))
        self.assertEqual((first.offsets, first.size), ((0, 0), 5))
        # A place without words has alignment 1.
        self.assertEqual((shaped(self.PROGRAM, (2,), 8).size, shaped(self.PROGRAM, (2,), 8).align), (0, 1))
        none = shaped(self.PROGRAM, (), 4)
        self.assertEqual((none.sections, none.offsets, none.sizes, none.size, none.align), ((), (), (), 0, 1))
        self.assertEqual((none.rounds, none.veneers), ({}, ()))

    def test_align_of_shape_with(self):
        self.assertEqual(shape_with(self.PROGRAM, (3,), []).align, 1)
        self.assertEqual(shape_with(self.PROGRAM, (3,), [], 2).align, 2)

    def test_alignments_move_branches(self):
        items = [("go", "t"), *pushes(*range(10)), HALT]
        rows = [code("main", items, [("begin", 0)]), cells("k", "const", [0] * 120)]
        near = made(*rows, code("x", [HALT], [("t", 0)]))
        far = made(*rows, code("x", [HALT], [("t", 0)], align=16))
        self.assertEqual(shaped(near, (0, 2)).rounds, {})
        self.assertEqual(shaped(far, (0, 1, 2)).rounds, {(0, 0): 1})
        self.assertEqual(shaped(far, (0, 1, 2)).offsets, (0, 23, 144))

    def test_a_shape_is_one(self):
        self.assertIsInstance(shaped(self.PROGRAM, (0,)), Shape)
        wide = [(0, 0)]
        shape = shape_with(self.PROGRAM, (0,), wide)
        wide.clear()
        self.assertEqual(shape.rounds, {(0, 0): 0})


if __name__ == "__main__":
    unittest.main()
