"""Promises [8] and [9]: runs by names, step by step, and overlays."""

import unittest

from checks import cells, Checks, code, kept, overlaid, program, pushes, unit
from romwright.joining import joined
from romwright.named import Run


def ended(items, *others, record=None, **more):
    """A run that has gone on as far as it can in 3000 steps."""
    run = Run(program(items, *others, **more), record)
    run.go(3000)
    return run


class Table(Checks):
    def leaves(self, items, *stack):
        """The stack behind these instructions, ahead of the halt."""
        run = Run(program(items, cells("d", "data", [7, 8], [("x", 0)])))
        self.assertEqual(run.go(len(items)), "runs")
        self.assertEqual(run.stack, stack)
        self.assertEqual([run.place, run.steps, run.returns, run.prints], [(0, len(items)), len(items), (), []])

    def faults(self, reason, items, *others, **more):
        run = ended(items, *others, **more)
        self.assertEqual([run.kind, run.reason], ["fault", reason])
        return run

    def test_stack(self):
        self.leaves(pushes(5), 5)
        self.leaves([("name", "x", 3)], (1, 3))
        self.leaves([("name", "x", 65535)], (1, 65535))
        self.leaves(pushes(1, 2) + [("dup",)], 1, 2, 2)
        self.leaves(pushes(1, 2) + [("drop",)], 1)
        self.leaves(pushes(1, 2, 3) + [("swap",)], 1, 3, 2)
        self.leaves(pushes(1, 2, 3) + [("over",)], 1, 2, 3, 2)
        self.leaves([("name", "x", 0), ("dup",)], (1, 0), (1, 0))

    def test_arithmetic(self):
        for op, told in (("add", 65534), ("sub", 4), ("mul", 65533), ("less", 0), ("same", 0)):
            left, right = (65535, 65535) if op == "add" else (3, 65535)
            self.leaves(pushes(left, right) + [(op,)], {"mul": 65533, "less": 1}.get(op, told))
        self.leaves(pushes(5, 5) + [("less",)], 0)
        self.leaves(pushes(6, 5) + [("less",)], 0)
        self.leaves(pushes(5, 6) + [("less",)], 1)
        self.leaves(pushes(5, 5) + [("same",)], 1)
        self.leaves(pushes(5, 6) + [("same",)], 0)
        self.leaves(pushes(300, 300) + [("mul",)], 90000 - 65536)
        self.leaves(pushes(9, 1, 2) + [("sub",)], 9, 65535)

    def test_memory(self):
        self.leaves([("name", "x", 1), ("load",)], 8)
        self.leaves(pushes(9) + [("name", "x", 1), ("store",), ("name", "x", 1), ("load",)], 9)
        self.leaves(pushes(4, 9) + [("name", "x", 1), ("store",)], 4)
        run = ended([("name", "x", 0), ("name", "x", 0), ("store",)], cells("d", "data", [1, 2], [("x", 1)]))
        self.assertEqual([run.kind, run.cell(1, 0), run.cell(1, 1)], ["done", 1, (1, 1)])

    def test_branches(self):
        run = Run(program([("go", "on"), ("push", 1)], symbols=[("on", 2)]))
        self.assertEqual([run.step(), run.place, run.step()], ["runs", (0, 2), "done"])
        for word, place in ((0, 3), (1, 2), (65535, 2)):
            run = Run(program(pushes(word) + [("unless", "on"), ("push", 1)], symbols=[("on", 3)]))
            self.assertEqual([run.go(2), run.place, run.stack], ["runs", (0, place), ()])

    def test_calls(self):
        first = code("main", [("call", "sub"), ("push", 2), ("halt",)], [("begin", 0)])
        second = code("more", [("halt",), ("push", 1), ("ret",)], [("sub", 1)])
        run = Run(joined([unit("u", first, second)], "begin"))
        self.assertEqual([run.step(), run.place, run.returns], ["runs", (1, 1), ((0, 1),)])
        self.assertEqual([run.go(2), run.place, run.returns, run.stack], ["runs", (0, 1), (), (1,)])
        self.assertEqual([run.go(9), run.steps, run.stack], ["done", 5, (1, 2)])
        self.assertEqual(ended([("ret",)]).kind, "done")

    def test_rests(self):
        run = Run(program([("ask",), ("out",), ("far", "p", "s", 0, 2), ("add",), ("out",), ("save",), ("confirm",)]))
        self.assertEqual([run.go(100), run.place, run.steps, run.stack], ["asks", (0, 1), 1, ()])
        self.assertEqual(run.step(), "asks")
        run.give(7)
        self.assertEqual([run.kind, run.stack, run.steps], ["runs", (7,), 1])
        self.assertEqual([run.go(100), run.asked(), run.place, run.steps], ["far", ("p", "s", (), 2), (0, 3), 3])
        run.give(5, 3)
        self.assertEqual(run.stack, (5, 3))
        self.assertEqual([run.go(100), run.prints, run.place], ["saves", [7, 8], (0, 6)])
        run.give()
        self.assertEqual([run.kind, run.go(100), run.place, run.steps], ["runs", "confirms", (0, 7), 7])
        run.give()
        self.assertEqual([run.go(100), run.steps, run.reason], ["done", 8, None])

    def test_far_takes(self):
        run = ended(pushes(1, 2, 3) + [("far", "p", "s", 2, 0)])
        self.assertEqual([run.kind, run.asked(), run.stack], ["far", ("p", "s", (2, 3), 0), (1,)])
        run.give()
        self.assertEqual([run.kind, run.stack], ["runs", (1,)])

    def test_outs(self):
        run = ended(pushes(5, 6) + [("out",), ("out",)])
        self.assertEqual([run.prints, run.stack], [[6, 5], ()])

    def test_hangs(self):
        data = cells("d", "data", [1], [("x", 0)])
        self.assertEqual(ended([("name", "x", 0), ("out",)], data).kind, "hangs")
        self.assertEqual(ended([("name", "x", 0), ("push", 1), ("far", "p", "s", 2, 0)], data).kind, "hangs")
        self.assertEqual(ended([("name", "x", 0), ("push", 1), ("far", "p", "s", 1, 0)], data).kind, "far")
        store = kept("k", c=5)
        self.assertEqual(ended([("name", "c", 0), ("name", "c", 0), ("store",), ("save",)], store).kind, "hangs")
        self.assertEqual(ended([("name", "x", 0), ("name", "x", 0), ("store",), ("save",)], data, store).kind, "saves")

    def test_few(self):
        for op, takes in (("dup", 1), ("drop", 1), ("swap", 2), ("over", 2), ("add", 2), ("sub", 2), ("mul", 2),
                          ("less", 2), ("same", 2), ("load", 1), ("store", 2), ("out", 1)):
            run = self.faults("few", pushes(*[1] * (takes - 1)) + [(op,)])
            self.assertEqual(run.steps, takes)
        self.faults("few", [("unless", "begin")])
        self.faults("few", pushes(1) + [("far", "p", "s", 2, 0)])
        self.faults("few", [("far", "p", "s", 1, 2)])

    def test_many(self):
        full = pushes(*[1] * 64)
        for item in (("push", 1), ("dup",), ("over",), ("ask",), ("far", "p", "s", 0, 1), ("far", "p", "s", 1, 2),
                     ("name", "x", 0)):
            run = self.faults("many", full + [item], cells("d", "data", [1], [("x", 0)]))
            self.assertEqual(run.steps, 65)
            self.assertNotEqual(ended(full[:63] + [item], cells("d", "data", [1], [("x", 0)])).kind, "fault")
        self.assertEqual(ended(full + [("far", "p", "s", 2, 2)]).kind, "far")
        self.faults("many", full[:63] + [("far", "p", "s", 0, 2)])
        self.assertEqual(ended(full).kind, "done")

    def test_deep(self):
        body = [("push", 1), ("add",), ("dup",), ("push", 33), ("sub",), ("unless", "end"), ("call", "sub"),
                ("halt",), ("halt",)]
        first = code("main", [("push", 1), ("call", "sub"), ("halt",)], [("begin", 0)])
        made = joined([unit("u", first, code("more", body, [("sub", 0), ("end", 8)]))], "begin")
        run = Run(made)
        self.assertEqual([run.go(3000), len(run.returns)], ["done", 32])
        body[3] = ("push", 34)
        run = Run(joined([unit("u", first, code("more", body, [("sub", 0), ("end", 8)]))], "begin"))
        self.assertEqual([run.go(3000), run.reason], ["fault", "deep"])

    def test_due_in_order(self):
        # few goes ahead of many, many ahead of what the table tells.
        self.faults("few", [("far", "p", "s", 1, 2)])
        self.faults("many", pushes(*[0] * 64) + [("ask",)])
        full = pushes(*[0] * 63)
        self.faults("astray", full + [("load",)])
        self.faults("many", full + [("name", "x", 0), ("far", "p", "s", 1, 2)], cells("d", "data", [1], [("x", 0)]))
        self.faults("few", [("out",)])
        self.faults("few", pushes(0) + [("store",)])

    def test_steps_are_counted(self):
        for items, steps in (([("out",)], 1), (pushes(0) + [("load",)], 2), ([("name", "x", 0), ("out",)], 2),
                             ([("ask",)], 1), ([("save",)], 1), ([("ret",)], 1), ([], 1)):
            self.assertEqual(ended(items, cells("d", "data", [1], [("x", 0)])).steps, steps)

    def test_go_and_step_of_what_does_not_run(self):
        run = ended([("push", 1)])
        self.assertEqual([run.go(5), run.step(), run.steps], ["done", "done", 2])
        run = Run(program([("push", 1), ("push", 2)]))
        self.assertEqual([run.go(0), run.steps, run.go(1), run.steps], ["runs", 0, "runs", 1])

    def test_program_and_record_are_not_changed(self):
        made = program(pushes(9) + [("name", "c", 0), ("store",)], kept("k", c=5, d=6))
        record = {"c": 1, "other": 2}
        run = Run(made, record)
        self.assertEqual([run.cell(1, 0), run.cell(1, 1)], [1, 6])
        run.go(10)
        self.assertEqual([run.cell(1, 0), record], [9, {"c": 1, "other": 2}])
        self.assertEqual(Run(made).cell(1, 0), 5)

    def test_cells(self):
        made = program([], cells("d", "data", [7, ("at", "x", 1), ("at", "k", 65535)], [("x", 0)]),
                       cells("z", "zero", [0]), cells("t", "const", [("at", "begin2", 0)], [("k", 0)]),
                       cells("e", "const", [], [("begin2", 0)]))
        run = Run(made)
        self.assertEqual([run.cell(1, 0), run.cell(1, 1), run.cell(1, 2), run.cell(2, 0), run.cell(3, 0)],
                         [7, (1, 1), (3, 65535), 0, (4, 0)])


class Overlays(Checks):
    def make(self, items, parts):
        others = [code("fa", [("push", 1), ("out",), ("ret",)], [("fa", 0)]),
                  code("fb", [("push", 2), ("out",), ("ret",)], [("fb", 0)]),
                  cells("da", "data", [5, 6], [("da", 0)]), cells("db", "zero", [0], [("db", 0)])]
        return overlaid(program(items, *others), parts)

    def run_of(self, items):
        parts = {"u.fa": (0, 0), "u.da": (0, 0), "u.fb": (0, 1), "u.db": (0, 1)}
        run = Run(self.make(items, parts))
        run.go(100)
        return run

    def test_bring(self):
        self.assertEqual(self.run_of([("call", "fa")]).kind, "hangs")
        run = self.run_of([("bring", "fa"), ("call", "fa"), ("bring", "fb"), ("call", "fb")])
        self.assertEqual([run.kind, run.prints], ["done", [1, 2]])
        run = self.run_of([("bring", "da"), ("bring", "db"), ("call", "fa")])
        self.assertEqual([run.kind, run.steps], ["hangs", 4])
        self.assertEqual(self.run_of([("bring", "begin"), ("call", "fb")]).kind, "hangs")

    def test_items_anew(self):
        store = pushes(9) + [("name", "da", 0), ("store",)]
        show = [("name", "da", 0), ("load",), ("out",)]
        run = self.run_of([("bring", "fa")] + store + [("bring", "da")] + show)
        self.assertEqual(run.prints, [9])
        run = self.run_of([("bring", "fa")] + store + [("bring", "db"), ("bring", "fa")] + show)
        self.assertEqual(run.prints, [5])

    def test_other_sections_stay(self):
        made = self.make(pushes(9) + [("name", "db", 0), ("store",), ("bring", "fa"), ("name", "db", 0), ("load",), ("out",)],
                         {"u.fa": (0, 0), "u.da": (0, 0)})
        run = Run(made)
        self.assertEqual([run.go(99), run.prints], ["done", [9]])

    def test_cells_of_parts_that_are_not_there(self):
        for items in ([("name", "da", 0), ("load",)], pushes(1) + [("name", "da", 0), ("store",)]):
            self.assertEqual(self.run_of(items).kind, "hangs")
            self.assertEqual(self.run_of([("bring", "fb")] + items).kind, "hangs")
            self.assertEqual(self.run_of([("bring", "fa")] + items).kind, "done")
        # A const section of a part that is not there hangs; there it is a fault.
        made = overlaid(program([*pushes(1), ("name", "t", 0), ("store",)], cells("t", "const", [1], [("t", 0)])),
                        {"u.t": (0, 0)})
        run = Run(made)
        self.assertEqual(run.go(9), "hangs")

    def test_a_hang_goes_ahead_of_few(self):
        made = overlaid(program([("go", "f")], code("f", [("out",), ("halt",)], [("f", 0)])), {"u.f": (0, 0)})
        run = Run(made)
        self.assertEqual([run.go(9), run.steps], ["hangs", 2])

    def test_groups(self):
        parts = {"u.fa": (0, 0), "u.fb": (1, 0)}
        run = Run(self.make([("bring", "fa"), ("bring", "fb"), ("call", "fa"), ("call", "fb")], parts))
        self.assertEqual([run.go(100), run.prints], ["done", [1, 2]])

    def test_addresses_in_parts(self):
        for op in ("same", "less"):
            run = self.run_of([("name", "da", 0), ("name", "db", 0), (op,)])
            self.assertEqual(run.kind, "hangs")
        # Different parts of one group hang even where no placement has them at one word.
        self.assertEqual(self.run_of([("name", "da", 0), ("name", "db", 0), ("same",)]).steps, 3)
        run = Run(self.make([("name", "da", 0), ("name", "db", 0), ("same",), ("out",)],
                            {"u.da": (0, 0), "u.db": (1, 1)}))
        self.assertEqual([run.go(9), run.prints], ["done", [0]])
        run = Run(self.make([("name", "da", 0), ("name", "db", 0), ("same",), ("out",)],
                            {"u.da": (0, 1), "u.db": (0, 1)}))
        self.assertEqual([run.go(9), run.prints], ["done", [0]])
        for parts in ({"u.da": (0, 1), "u.db": (1, 0)}, {"u.da": (0, 1)}, {"u.db": (0, 1)}):
            run = Run(self.make([("name", "da", 0), ("name", "db", 0), ("same",), ("out",)], parts))
            self.assertEqual([run.go(9), run.prints], ["done", [0]])


if __name__ == "__main__":
    unittest.main()
