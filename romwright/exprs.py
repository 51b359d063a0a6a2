"""Expressions: read, written, and their values."""

from romwright.lines import decimal, is_decimal
from romwright.order import ascending
from romwright.plain import BadWords, is_name

WORDS = (
    "or", "and", "not", "mod", "home", "confirms", "start", "end", "size", "load", "base", "len", "used", "room",
    "at", "exported", "takes", "leaves", "kept",
)
# The words that stand with a name.
FACTS = ("start", "end", "size", "load", "base", "len", "used", "room", "at", "exported", "takes", "leaves", "kept")
COMPARISONS = ("<", "<=", "=", "<>", ">", ">=")
# The levels of the operators with two operands, from loose to tight; `not` and the `-` in front have 3 and 7.
LEVELS = {
    "or": 1, "and": 2, "<": 4, "<=": 4, "=": 4, "<>": 4, ">": 4, ">=": 4, "+": 5, "-": 5, "*": 6, "/": 6, "mod": 6,
}
NOT_LEVEL = 3
MINUS_LEVEL = 7
MOST = 1000000000


class ExprReader:
    """Takes words as long as they are the beginning of an expression, and builds its tree."""

    def __init__(self):
        # What waits for its operand: (level, word), or (0, "(").
        self.waiting = []
        self.trees = []
        # Whether an operand is due; the word of a fact that waits for its name; the level of what is due.
        self.due = True
        self.fact = None
        self.level = 0

    def accept(self, word):
        """Whether an expression can go on with this word."""
        if self.fact is not None:
            return self.accept_name(word)
        return self.accept_operand(word) if self.due else self.accept_operator(word)

    def accept_name(self, word):
        if not is_name(word):
            return False
        self.put_tree((self.fact, word))
        self.fact = None
        return True

    def accept_operand(self, word):
        if word == "not":
            # An operand of a tighter operator stands in parentheses.
            if self.level > NOT_LEVEL:
                return False
            self.waiting.append((NOT_LEVEL, "not"))
            self.level = NOT_LEVEL
        elif word == "-":
            self.waiting.append((MINUS_LEVEL, "minus"))
            self.level = MINUS_LEVEL
        elif word == "(":
            self.waiting.append((0, "("))
            self.level = 0
        elif word in FACTS:
            self.fact = word
        else:
            return self.accept_leaf(word)
        return True

    def accept_leaf(self, word):
        if word in ("home", "confirms"):
            self.put_tree((word,))
        elif is_name(word) and word not in WORDS:
            self.put_tree(("let", word))
        elif len(word) <= 10 and is_decimal(word) and decimal(word) <= MOST:
            self.put_tree(("number", decimal(word)))
        else:
            return False
        return True

    def accept_operator(self, word):
        if word == ")":
            return self.close()
        if word not in LEVELS:
            return False
        level = LEVELS[word]
        self.fold(level)
        # What is folded leaves no operator of this level, but for another comparison.
        if len(self.waiting) > 0 and self.waiting[-1][0] == level:
            return False
        self.waiting.append((level, word))
        self.due = True
        self.level = level
        return True

    def put_tree(self, tree):
        self.trees.append(tree)
        self.due = False

    def fold(self, level):
        """Gives the operators that are at least so tight their operands; of the comparisons, only tighter ones."""
        least = level + 1 if level == LEVELS["<"] else level
        while len(self.waiting) > 0 and self.waiting[-1][0] >= least:
            op = self.waiting.pop()[1]
            right = self.trees.pop()
            if op in LEVELS:
                self.trees.append((op, self.trees.pop(), right))
            else:
                self.trees.append((op, right))

    def close(self):
        """Whether a parenthesis can close here."""
        self.fold(1)
        if len(self.waiting) == 0:
            return False
        self.waiting.pop()
        return True

    def whole(self):
        """The tree, or None if the expression cannot end here."""
        if self.due:
            return None
        self.fold(1)
        return self.trees[0] if len(self.waiting) == 0 else None


def read_expr(words):
    """The tree of these words."""
    if len(words) > 40:
        raise BadWords(40)
    reader = ExprReader()
    for number, word in enumerate(words):
        if not reader.accept(word):
            raise BadWords(number)
    tree = reader.whole()
    if tree is None:
        raise BadWords(len(words))
    return tree


def level_of(tree):
    """How tight a tree is written: by its topmost operator."""
    if len(tree) == 3:
        return LEVELS[tree[0]]
    return NOT_LEVEL if tree[0] == "not" else MINUS_LEVEL


def write_expr(tree):
    """The words of a tree, a list."""
    op = tree[0]
    if len(tree) == 3:
        level = LEVELS[op]
        left = level + 1 if op in COMPARISONS else level
        return operand_words(tree[1], left) + [op] + operand_words(tree[2], level + 1)
    if op == "not":
        return ["not"] + operand_words(tree[1], NOT_LEVEL)
    if op == "minus":
        return ["-"] + operand_words(tree[1], MINUS_LEVEL)
    if op in ("number", "let"):
        return [str(tree[1])]
    return [op] if len(tree) == 1 else [op, tree[1]]


def operand_words(tree, least):
    """The words of an operand, in parentheses if it is looser than this level."""
    words = write_expr(tree)
    return words if level_of(tree) >= least else ["("] + words + [")"]


def names_in(tree):
    """The pairs (word, name) that a tree uses, in order."""
    if tree[0] == "let" or tree[0] in FACTS:
        return ((tree[0], tree[1]),)
    if tree[0] == "number":
        return ()
    names = ()
    for part in tree[1:]:
        names = names + names_in(part)
    return names


def within(number):
    """The number, or None if it is beyond what a value can be."""
    return number if number is not None and -MOST <= number <= MOST else None


def value(tree, facts):
    """The value of a tree, or None."""
    op = tree[0]
    if op == "number":
        return within(tree[1])
    if op in ("home", "confirms", "let") or op in FACTS:
        return within(facts.get(tree))
    parts = [value(part, facts) for part in tree[1:]]
    if any([part is None for part in parts]):
        return None
    if len(parts) == 1:
        return -parts[0] if op == "minus" else truth(parts[0] == 0)
    return within(result(op, parts[0], parts[1]))


def truth(thing):
    return 1 if thing else 0


def result(op, left, right):
    """What an operator with two operands gives, or None."""
    if op == "or":
        return truth(left != 0 or right != 0)
    if op == "and":
        return truth(left != 0 and right != 0)
    if op in COMPARISONS:
        return truth(compared(op, left, right))
    if op == "+":
        return left + right
    if op == "-":
        return left - right
    if op == "*":
        return left * right
    if right == 0:
        return None
    return left // right if op == "/" else left % right


def compared(op, left, right):
    if op == "=":
        return left == right
    if op == "<>":
        return left != right
    if op in ("<", ">="):
        return (left < right) == (op == "<")
    return (left > right) == (op == ">")


def lets_in(tree):
    return [name for word, name in names_in(tree) if word == "let"]


def let_values(lets, facts):
    """The values of lets that are in no ring, a dict in their order."""
    known = {fact: facts[fact] for fact in facts}
    left = {name: [other for other in lets_in(lets[name]) if other in lets] for name in lets}
    found = {}
    while len(left) > 0:
        ready = [name for name in left if not any([other in left for other in left[name]])]
        for name in ready:
            found[name] = value(lets[name], known)
            del left[name]
        for name in ready:
            known[("let", name)] = found[name]
    return {name: found[name] for name in lets}


def least_ring(lets):
    """The ring of fewest lets, of several the least one; None if there is none."""
    after = {name: ascending([other for other in lets_in(lets[name]) if other in lets]) for name in lets}
    best = None
    for name in ascending(lets):
        ring = ring_from(name, after)
        if ring is not None and (best is None or len(ring) < len(best)):
            best = ring
    return best


def ring_from(start, after):
    """The shortest ring that begins with this name and has no lesser one, of several the least; or None."""
    paths = [(start,)]
    met = {start: True}
    at = 0
    while at < len(paths):
        path = paths[at]
        at += 1
        for name in after[path[-1]]:
            if name == start:
                return path
            if name > start and name not in met:
                met[name] = True
                paths.append(path + (name,))
    return None
