"""Promises [17], [18] and what [19] says of rings."""

import random
import unittest

from checks import Checks
from romwright.exprs import least_ring, let_values, names_in, read_expr, value, WORDS, write_expr
from romwright.plain import BadWords, is_name

FACTS = "start end size load base len used room at exported takes leaves kept".split()
LOOSE = (("or",), ("and",), ("not",), ("<", "<=", "=", "<>", ">", ">="), ("+", "-"), ("*", "/", "mod"))
BINARY = [op for level in LOOSE for op in level if op != "not"]


def number(n):
    return ("number", n)


def read(text):
    return read_expr(text.split(" ") if text else [])


def is_expr(words, level=0, known=None):
    """Whether words are an expression of this level, straight by the grammar."""
    known = {} if known is None else known
    key = (tuple(words), level)
    if key not in known:
        known[key] = False
        known[key] = derived(words, level, known)
    return known[key]


def derived(words, level, known):
    if not words:
        return False
    if level < 6 and is_expr(words, level + 1, known):
        return True
    if level == 7:
        return is_bottom(words, known)
    if level == 6:
        return (words[0] == "-" and is_expr(words[1:], 6, known)) or is_expr(words, 7, known)
    if LOOSE[level] == ("not",):
        return words[0] == "not" and is_expr(words[1:], level, known)
    left = level + 1 if level == 3 else level
    return any(words[k] in LOOSE[level] and is_expr(words[:k], left, known) and is_expr(words[k + 1:], level + 1, known)
               for k in range(1, len(words)))


def is_bottom(words, known):
    if words[0] == "(" and words[-1] == ")":
        return is_expr(words[1:-1], 0, known)
    if len(words) == 2:
        return words[0] in FACTS and is_name(words[1])
    return len(words) == 1 and (words[0].isdigit() or words[0] in ("home", "confirms")
                                or (words[0].isalpha() and words[0] not in WORDS))


def is_beginning(words):
    ends = [")" * k for k in range(len(words) + 1)]
    for middle in ([], ["1"], ["x"]):
        for end in ends:
            if is_expr(words + middle + list(end)):
                return True
    return False


def some_tree(chosen, depth):
    way = chosen.randrange(10)
    if depth == 0 or way < 2:
        return chosen.choice([number(0), number(7), number(1000000000), ("home",), ("confirms",), ("let", "x"),
                              ("start", "start"), ("kept", "or"), ("at", "a1")])
    if way < 4:
        return (chosen.choice(("not", "minus")), some_tree(chosen, depth - 1))
    return (chosen.choice(BINARY), some_tree(chosen, depth - 1), some_tree(chosen, depth - 1))


class Reading(Checks):
    def test_words(self):
        told = "or and not mod home confirms start end size load base len used room at exported takes leaves kept"
        self.assertEqual(WORDS, tuple(told.split()))

    def test_trees(self):
        for text, tree in (
                ("1 + 2 * 3", ("+", number(1), ("*", number(2), number(3)))),
                ("1 - 2 - 3", ("-", ("-", number(1), number(2)), number(3))),
                ("1 - ( 2 - 3 )", ("-", number(1), ("-", number(2), number(3)))),
                ("8 / 4 mod 2 * 1", ("*", ("mod", ("/", number(8), number(4)), number(2)), number(1))),
                ("not 1 < 2", ("not", ("<", number(1), number(2)))),
                ("not not a", ("not", ("not", ("let", "a")))),
                ("- - 1 * 2", ("*", ("minus", ("minus", number(1))), number(2))),
                ("1 - - 1", ("-", number(1), ("minus", number(1)))),
                ("a or b and not c = 1", ("or", ("let", "a"), ("and", ("let", "b"),
                                                               ("not", ("=", ("let", "c"), number(1)))))),
                ("a and b or c or d", ("or", ("or", ("and", ("let", "a"), ("let", "b")), ("let", "c")), ("let", "d"))),
                ("( 1 < 2 ) < 3", ("<", ("<", number(1), number(2)), number(3))),
                ("( ( ( 1 ) ) )", number(1)),
                ("home + confirms", ("+", ("home",), ("confirms",))),
                ("start home + kept not", ("+", ("start", "home"), ("kept", "not"))),
                ("0 <= 1000000000", ("<=", number(0), number(1000000000))),
                ("1 < 2 and 3 > 2", ("and", ("<", number(1), number(2)), (">", number(3), number(2)))),
        ):
            self.assertEqual(read(text), tree)

    def test_each_word(self):
        for word in FACTS:
            self.assertEqual(read(f"{word} abcdefghi"), (word, "abcdefghi"))
            self.assertEqual(read(f"{word} {word}"), (word, word))
            self.fails(BadWords, 1, read, word)
            self.fails(BadWords, 1, read, f"{word} 1")
            self.fails(BadWords, 1, read, f"{word} A")
            self.fails(BadWords, 1, read, f"{word} (")
        for name in ("if", "min", "let", "b", "number", "minus", "region"):
            self.assertEqual(read(name), ("let", name))

    def test_first_bad_words(self):
        for text, bad in (
                ("", 0), ("or", 0), (")", 0), ("<", 0), ("*", 0), ("mod", 0), ("A", 0), ("01", 0), ("1000000001", 0),
                ("10000000000", 0), ("-1", 0), ("1.0", 0), ("+", 0), ("abcdefghij", 0), ("not", 1), ("-", 1), ("(", 1),
                ("1 +", 2), ("1 2", 1), ("1 a", 1), ("1 (", 1), ("1 not", 1), ("1 home", 1), ("1 )", 1), ("( )", 1),
                ("( 1", 2), ("( 1 ) )", 3), ("1 < 2 < 3", 3), ("1 < 2 = 3", 3), ("1 < not 2", 2), ("1 + not 2", 2),
                ("1 * not 2", 2), ("- not 2", 1), ("1 + 2 < 3 * 4 > 5", 7), ("not 1 < 2 < 3", 4),
                ("1 < 2 and 3 < 4 < 5", 7), ("1 and or", 2), ("1 = = 2", 2), ("1 mod mod", 2), ("( 1 < 2 ) < 3 < 4", 7),
                ("a  b", 1), ("1 + + 1", 2), ("start", 1), ("start a b", 2), ("1 == 2", 1), ("1 % 2", 1), ("x y", 1)):
            self.fails(BadWords, bad, read, text)
        self.fails(BadWords, 0, read_expr, [""])
        self.fails(BadWords, 1, read_expr, ["1", ""])
        self.fails(BadWords, 0, read_expr, ["9" * 5000])

    def test_number_of_words(self):
        self.assertEqual(names_in(read_expr(["-"] * 39 + ["a"])), (("let", "a"),))
        self.fails(BadWords, 40, read_expr, ["-"] * 40 + ["a"])
        self.fails(BadWords, 40, read_expr, ["or"] * 41)
        self.fails(BadWords, 40, read_expr, ["("] * 40)
        self.fails(BadWords, 0, read_expr, ["or"] * 40)
        deep = ["("] * 19 + ["1"] + [")"] * 19
        self.assertEqual(read_expr(deep), number(1))

    def test_by_the_grammar(self):
        chosen = random.Random(8)
        signs = ["1", "1", "x", "not", "-", "<", ">=", "+", "*", "mod", "or", "and", "(", "(", ")", "start"]
        for _ in range(2500):
            words = []
            for _ in range(chosen.randrange(9)):
                sign = chosen.choice(signs)
                if words and chosen.randrange(3):
                    # Mostly what goes on, so that long beginnings occur.
                    for _ in range(6):
                        if is_beginning(words + [sign]):
                            break
                        sign = chosen.choice(signs)
                words.append(sign)
            if is_expr(words):
                self.assertIsInstance(read_expr(words), tuple)
                continue
            bad = len(words)
            for k in range(len(words)):
                if not is_beginning(words[:k + 1]):
                    bad = k
                    break
            self.fails(BadWords, bad, read_expr, words)


class Writing(Checks):
    def test_there_and_back(self):
        chosen = random.Random(9)
        for _ in range(2000):
            tree = some_tree(chosen, chosen.randrange(5))
            words = write_expr(tree)
            self.assertTrue(is_expr(words) if len(words) < 12 else True)
            if len(words) > 40:
                continue
            self.assertEqual(read_expr(words), tree)
            for at, word in enumerate(words):
                if word == "(":
                    end = self.closing(words, at)
                    less = words[:at] + words[at + 1:end] + words[end + 1:]
                    self.assertNotEqual(self.read_or_none(less), tree)

    def closing(self, words, at):
        depth = 0
        for k in range(at, len(words)):
            depth += {"(": 1, ")": -1}.get(words[k], 0)
            if depth == 0:
                return k
        return None

    def read_or_none(self, words):
        try:
            return read_expr(words)
        except BadWords:
            return None

    def test_every_operator_beside_every_other(self):
        one, two, three = ("let", "a"), ("let", "b"), ("let", "c")
        for first in BINARY:
            for second in BINARY:
                for tree in ((first, (second, one, two), three), (first, one, (second, two, three))):
                    self.assertEqual(read_expr(write_expr(tree)), tree)
            for op in ("not", "minus"):
                for tree in ((op, (first, one, two)), (first, (op, one), two), (first, one, (op, two)),
                             (op, (op, one))):
                    self.assertEqual(read_expr(write_expr(tree)), tree)
        self.assertEqual(write_expr(("not", ("not", ("<", number(1), ("minus", number(2)))))), "not not 1 < - 2".split())
        self.assertEqual(write_expr(("<", ("<", one, two), three)), "( a < b ) < c".split())
        self.assertEqual(write_expr(("minus", ("not", one))), "- ( not a )".split())
        self.assertEqual(write_expr(("-", one, ("-", two, three))), "a - ( b - c )".split())

    def test_needless_parentheses(self):
        for text, short in (("( 1 )", "1"), ("( 1 * 2 ) + 3", "1 * 2 + 3"), ("( a and b ) or ( not c )", "a and b or not c"),
                            ("not ( 1 < 2 )", "not 1 < 2"), ("( - 1 ) * ( - 2 )", "- 1 * - 2"),
                            ("( start a ) - ( b )", "start a - b"), ("a or ( b or c )", "a or ( b or c )")):
            self.assertEqual(write_expr(read(text)), short.split(" "))

    def test_names_in(self):
        self.assertEqual(names_in(read("a + start b < - a and kept a or home = confirms")),
                         (("let", "a"), ("start", "b"), ("let", "a"), ("kept", "a")))
        self.assertEqual(names_in(number(5)), ())
        self.assertEqual(names_in(read("not x")), (("let", "x"),))


class Values(Checks):
    def test_operators(self):
        for text, told in (
                ("1 + 2", 3), ("1 - 2", -1), ("3 * - 4", -12), ("7 / 2", 3), ("- 7 / 2", -4), ("7 / - 2", -4),
                ("- 7 / - 2", 3), ("7 mod 2", 1), ("- 7 mod 2", 1), ("7 mod - 2", -1), ("- 7 mod - 2", -1),
                ("6 mod 3", 0), ("- 6 mod 3", 0), ("0 / 5", 0), ("1 / 2", 0), ("- 1 / 2", -1),
                ("1 < 2", 1), ("2 < 2", 0), ("2 <= 2", 1), ("3 <= 2", 0), ("2 = 2", 1), ("1 = 2", 0), ("1 <> 2", 1),
                ("2 <> 2", 0), ("3 > 2", 1), ("2 > 2", 0), ("2 >= 2", 1), ("1 >= 2", 0),
                ("not 0", 1), ("not 5", 0), ("not - 1", 0), ("not not 5", 1), ("0 or 0", 0), ("0 or - 3", 1), ("4 or 0", 1), ("0 and 6", 0),
                ("5 and 7", 1), ("5 and 0", 0), ("0 and 0", 0), ("- 5", -5), ("1 / 0", None), ("1 mod 0", None),
                ("0 / 0", None), ("0 and 1 / 0", None), ("1 or 1 / 0", None), ("not 1 / 0", None), ("- ( 1 / 0 )", None),
                ("1000000000", 1000000000), ("1000000000 + 1", None), ("1000000000 + 1 - 1", None),
                ("1000000000 - 0", 1000000000), ("- 1000000000", -1000000000), ("- 1000000000 - 1", None),
                ("100000 * 10000", 1000000000), ("100000 * 10001", None), ("100000 * - 10000", -1000000000),
                ("100000 * - 10001", None), ("1000000000 mod - 3", -2), ("31623 * 31623", None)):
            self.assertEqual(value(read(text), {}), told, text)

    def test_facts(self):
        facts = {("home",): 5, ("confirms",): None, ("let", "a"): -3, ("start", "a"): 1000000000,
                 ("end", "a"): 1000000001, ("size", "a"): -1000000001, ("load", "a"): -1000000000}
        for text, told in (("home", 5), ("confirms", None), ("a", -3), ("b", None), ("start a", 1000000000),
                           ("end a", None), ("size a", None), ("load a", -1000000000), ("start b", None),
                           ("home = 5 or confirms", None), ("a + home", 2), ("base a", None)):
            self.assertEqual(value(read(text), facts), told, text)
        self.assertEqual(len(facts), 7)

    def test_lets(self):
        lets = {"c": read("a * b"), "a": read("home + 1"), "b": read("a - 1 / d"), "d": read("2"), "e": read("1 / 0"),
                "f": read("e or 1"), "g": read("z + 1"), "h": read("y + 1")}
        facts = {("home",): 4, ("let", "y"): 6, ("let", "a"): 99}
        told = let_values(lets, facts)
        self.assertEqual(told, {"c": 25, "a": 5, "b": 5, "d": 2, "e": None, "f": None, "g": None, "h": 7})
        self.assertEqual(facts, {("home",): 4, ("let", "y"): 6, ("let", "a"): 99})
        self.assertEqual(let_values({}, facts), {})
        chain = {f"l{k}": read(f"l{k + 1} + 1") for k in range(30)}
        chain["l30"] = number(1)
        self.assertEqual(let_values(chain, {})["l0"], 31)


class Rings(Checks):
    def ring(self, **lets):
        return least_ring({name: read(text) for name, text in lets.items()})

    def test_rings(self):
        self.assertIsNone(self.ring())
        self.assertIsNone(self.ring(a="b + c", b="c", c="1"))
        self.assertIsNone(self.ring(a="z", b="a"))
        self.assertIsNone(self.ring(a="start a + kept a"))
        self.assertEqual(self.ring(a="a"), ("a",))
        self.assertEqual(self.ring(b="a", a="b"), ("a", "b"))
        self.assertEqual(self.ring(c="a", a="b", b="c"), ("a", "b", "c"))
        self.assertEqual(self.ring(a="b", b="c", c="a + b"), ("b", "c"))
        self.assertEqual(self.ring(a="b", b="a", c="c"), ("c",))
        self.assertEqual(self.ring(a="d + c", c="a", d="a"), ("a", "c"))
        self.assertEqual(self.ring(a="c + b", b="e", c="d", d="a", e="a"), ("a", "b", "e"))
        self.assertEqual(self.ring(x="a", a="y", y="b", b="a", c="d", d="c"), ("c", "d"))

    def test_by_all_rings(self):
        chosen = random.Random(10)
        for _ in range(300):
            names = "abcdefg"[:chosen.randrange(1, 8)]
            lets = {name: [other for other in names + "z" if chosen.randrange(5) == 0] for name in names}
            rings = [path for name in names for path in self.paths(lets, (name,)) if path[0] in lets[path[-1]]]
            told = min(rings, key=lambda ring: (len(ring), ring)) if rings else None
            trees = {name: read(" + ".join(["1"] + lets[name])) for name in lets}
            self.assertEqual(least_ring(trees), told)

    def paths(self, lets, path):
        found = [path]
        for name in lets[path[-1]]:
            if name in lets and name not in path:
                found += self.paths(lets, path + (name,))
        return found


if __name__ == "__main__":
    unittest.main()
