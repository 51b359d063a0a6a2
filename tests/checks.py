"""What the tests have in common."""

import unittest

from romwright.joining import joined, Program
from romwright.units import Section, Unit


class Checks(unittest.TestCase):
    def fails(self, error, told, call, *args, **more):
        """The call raises this very error, which keeps what is told as its only attribute."""
        with self.assertRaises(error) as caught:
            call(*args, **more)
        self.assertIs(caught.exception.__class__, error)
        self.assertEqual(list(vars(caught.exception).values()), [told])

    def fails_same(self, error, told, call, *args, **more):
        """As fails; what is told is this very object."""
        with self.assertRaises(error) as caught:
            call(*args, **more)
        self.assertIs(list(vars(caught.exception).values())[0], told)


def code(name, items, symbols=(), exports=(), **more):
    """A code section; symbols (name, place) are global."""
    told = [symbol if len(symbol) == 3 else symbol + ("global",) for symbol in symbols]
    return Section(name, "code", items, symbols=told, exports=exports, **more)


def cells(name, kind, items, symbols=(), **more):
    """A section that is not code; symbols (name, place) are global."""
    told = [symbol if len(symbol) == 3 else symbol + ("global",) for symbol in symbols]
    return Section(name, kind, items, symbols=told, **more)


def kept(name, **words):
    """A kept section with these cells."""
    return cells(name, "kept", list(words.values()), [(word, place) for place, word in enumerate(words)])


def unit(name, *sections):
    return Unit(name, sections)


def program(items, *others, symbols=(), exports=()):
    """A program of one unit u with the section main of these instructions, which begins at `begin`."""
    first = code("main", [*items, ("halt",)], [("begin", 0), *symbols], exports)
    return joined([unit("u", first, *others)], "begin")


def overlaid(made, parts):
    """A joined program with parts for some of its sections, told by their names."""
    rows = [parts.get(section.name) for section in made.sections]
    return Program(made.sections, made.entry, made.exports, made.wants, made.cells, rows)


def pushes(*words):
    return [("push", word) for word in words]
