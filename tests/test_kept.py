"""Records that are kept while programs are run, [42]."""

import random
import unittest

from checks import cells, Checks, code, kept, program, unit
from romwright.joining import joined
from romwright.kept import at_start, Book, set_kept
from romwright.named import Lone
from romwright.plain import BadEvent, BadName, BadWord, Full, NoName, NotNow

START = ("start",)
FULL = {f"n{k}": k for k in range(24)}
MORE = {f"n{k}": k for k in range(25)}


def counter(item, *others, **words):
    """A program that prints its cell c, puts what it is fed into it and saves it; with further cells."""
    items = [("name", "c", 0), ("load",), ("out",), ("ask",), ("name", "c", 0), ("store",), ("save",)]
    return program(items, kept("s", c=item, **words), *others)


class Books(Checks):
    def test_empty(self):
        book = Book()
        self.assertEqual((book.kept, len(book), "a" in book), ({}, 0, False))
        self.assertEqual(Book({}).kept, {})

    def test_items(self):
        book = Book({"b": 2, "a": 65535})
        self.assertEqual((book["b"], book["a"], len(book)), (2, 65535, 2))
        self.assertEqual(["a" in book, "c" in book], [True, False])
        self.fails(NoName, "c", book.__getitem__, "c")

    def test_kept_is_a_copy(self):
        given = {"a": 1}
        book = Book(given)
        given["a"] = 2
        given["b"] = 3
        book.kept["a"] = 9
        told = book.kept
        told["c"] = 1
        self.assertEqual(book.kept, {"a": 1})
        given = {"z": 5}
        book.kept = given
        given["z"] = 6
        self.assertEqual(book.kept, {"z": 5})

    def test_setter_replaces_all(self):
        book = Book({"a": 1, "b": 2})
        book.kept = {"b": 7}
        self.assertEqual(book.kept, {"b": 7})
        self.assertIsNone(set_kept(book, {"c": 8}))
        self.assertEqual((book.kept, "b" in book), ({"c": 8}, False))
        set_kept(book, {})
        self.assertEqual(len(book), 0)

    def test_limits(self):
        self.assertEqual(len(Book(FULL)), 24)
        self.fails(Full, 24, Book, MORE)
        book = Book({"a": 1})
        self.fails(Full, 24, set_kept, book, MORE)
        self.assertEqual(book.kept, {"a": 1})
        book.kept = FULL
        self.assertEqual(book.kept, FULL)
        self.assertEqual(book.put(("n3", 9)), 24)
        self.fails(Full, 24, book.put, ("n4", 9), ("zz", 1))
        self.assertEqual(book.kept, {**FULL, "n3": 9})
        # What is wrong is told ahead of what is too much.
        self.fails(BadWord, -1, Book, {**MORE, "zz": -1})

    def test_wrong_pairs_in_order(self):
        wrong = [("A", 1, BadName, "A"), ("", 1, BadName, ""), ("a123456789", 1, BadName, "a123456789"), (7, 1, BadName, 7),
                 ("a", 65536, BadWord, 65536), ("a", -1, BadWord, -1), ("a", True, BadWord, True), ("a", "1", BadWord, "1"),
                 ("a", None, BadWord, None), ("1", 65536, BadName, "1")]
        for name, word, error, told in wrong:
            book = Book({"k": 4})
            self.fails(error, told, Book, {"b": 1, name: word})
            self.fails(error, told, set_kept, book, {"b": 1, name: word, "B": 70000})
            self.fails(error, told, book.put, ("b", 1), (name, word), ("B", 70000), c=70000)
            self.assertEqual(book.kept, {"k": 4})
        self.fails(BadWord, 70000, Book, {"a": 70000, "A": 1})
        self.fails(BadName, "A", Book, {"A": 1, "a": 70000})

    def test_put(self):
        book = Book({"a": 1})
        self.assertEqual(book.put(), 1)
        self.assertEqual(book.put(("b", 2), ("a", 5), c=3), 3)
        self.assertEqual(book.kept, {"a": 5, "b": 2, "c": 3})
        # Keyword words come behind the pairs.
        self.assertEqual(book.put(("d", 1), ("d", 2), d=3), 4)
        self.assertEqual(book["d"], 3)
        self.fails(BadWord, -1, book.put, ("e", -1), E=1)
        self.fails(BadName, "E", book.put, ("e", 1), E=1)
        self.fails(BadName, "e_f", book.put, e_f=1)
        self.fails(BadWord, 65536, book.put, e=65536)
        self.assertEqual(book.kept, {"a": 5, "b": 2, "c": 3, "d": 3})


class Plays(Checks):
    def test_the_same_cell(self):
        book = Book()
        first, second = counter(5), counter(6, b=1)
        self.assertEqual(book.play(first, [START, ("feed", 8)]),
                         [(("print", 5), ("asks",)), (("save", (("c", 8),)), ("done",))])
        self.assertEqual(book.kept, {"c": 8})
        self.assertEqual(book.play(second, (START, ("feed", 9))),
                         [(("print", 8), ("asks",)), (("save", (("b", 1), ("c", 9))), ("done",))])
        self.assertEqual(book.kept, {"b": 1, "c": 9})
        self.assertEqual(book.play(first, [START]), [(("print", 9), ("asks",))])
        # What is not saved is not kept.
        self.assertEqual(book.play(first, [START, START]), [(("print", 9), ("asks",))] * 2)

    def test_other_cells(self):
        book = Book({"x": 3})
        other = program([("name", "d", 0), ("load",), ("out",), ("save",)], kept("s", d=2, e=4))
        book.play(counter(5), [START, ("feed", 1)])
        self.assertEqual(book.play(other, [START]), [(("print", 2), ("save", (("d", 2), ("e", 4))), ("done",))])
        self.assertEqual(book.kept, {"x": 3, "c": 1, "d": 2, "e": 4})
        self.assertEqual(book.play(counter(5), [START])[0][0], ("print", 1))

    def test_full(self):
        words = {f"m{k}": k for k in range(23)}
        book = Book({f"n{k}": 0 for k in range(23)})
        # 24 names, then a 25th.
        self.assertEqual(book.play(counter(1), [START, ("feed", 2)])[1][-1], ("done",))
        self.assertEqual(len(book), 24)
        before = book.kept
        self.assertEqual(book.play(counter(1, q=1), [START, ("feed", 3)]), [(("print", 2), ("asks",)), (("fault", "full"),)])
        self.assertEqual(book.kept, before)
        book.kept = {}
        self.assertEqual(book.play(counter(1, **words), [START, ("feed", 3)])[1][-1], ("done",))
        self.assertEqual(len(book), 24)

    def test_nothing_changes_behind_an_error(self):
        book = Book({"c": 1})
        self.fails(NotNow, ("feed", 3), book.play, counter(5), [START, ("feed", 2), ("feed", 3)])
        self.fails(BadEvent, ("feed",), book.play, counter(5), [START, ("feed", 2), ("feed",)])
        self.assertEqual(book.kept, {"c": 1})

    def test_at_start(self):
        made = joined([unit("u", code("main", [("halt",)], [("begin", 0)]), kept("s", z=1, b=2), cells("d", "data", [4])),
                       unit("a", kept("s", m=3))], "begin")
        record = {"m": 9, "q": 8}
        told = at_start(made, record)
        self.assertEqual(list(told.items()), [("b", 2), ("m", 9), ("z", 1)])
        self.assertEqual(at_start(made, {}), {"b": 2, "m": 3, "z": 1})
        self.assertEqual(record, {"m": 9, "q": 8})
        told["b"] = 7
        self.assertEqual(at_start(made, {})["b"], 2)

    def test_last_saved_or_item_by_chance(self):
        rng = random.Random(3)
        for _ in range(40):
            book, saved = Book(), {}
            for _ in range(8):
                names = rng.sample(["a", "b", "c", "d"], rng.randint(1, 4))
                words = {name: rng.randint(0, 9) for name in names}
                items = [part for name in sorted(names) for part in (("name", name, 0), ("load",), ("out",))]
                items += [part for name in names if rng.random() < 0.5
                          for part in (("push", rng.randint(10, 99)), ("name", name, 0), ("store",))]
                items += [("save",)] if rng.random() < 0.6 else []
                made = program(items, kept("s", **words))
                want = {name: saved.get(name, words[name]) for name in sorted(names)}
                self.assertEqual(at_start(made, book.kept), want)
                told = book.play(made, [START])[0]
                self.assertEqual([each[1] for each in told if each[0] == "print"], list(want.values()))
                for each in told:
                    saved.update(each[1] if each[0] == "save" else {})
                self.assertEqual(book.kept, saved)

    def test_as_one_device_with_several_starts(self):
        book = Book({"c": 7})
        device = Lone(counter(5), {"c": 7})
        events = [START, ("feed", 3), START, ("feed", 4), START]
        self.assertEqual(book.play(counter(5), events), [device.meet(event) for event in events])
        self.assertEqual(book.kept, device.record)


if __name__ == "__main__":
    unittest.main()
