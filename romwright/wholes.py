"""Whole sections as words, as releases and turns have them."""

from romwright.coding import CODES, op_of
from romwright.items import BRANCHES
from romwright.plain import name_words, RomError
from romwright.units import Section
from romwright.wording import effect_word, export_words, kind_word, Misplaced, symbol_words

NAME_CODE = 28
# No instruction of a unit has these forms.
NO_UNIT_FORMS = ("go wide", "unless wide", "call wide", "hop")


def whole_words(section):
    """The words of a section with its items, a list."""
    words = list(name_words(section.name))
    words.append(kind_word(section))
    words.extend([len(section.body), len(section.symbols), len(section.exports)])
    words.extend(symbol_words(section))
    words.extend(export_words(section))
    if section.kind != "zero":
        for item in section.body:
            words.extend(words_of_item(section.kind, item))
    return words


def words_of_item(kind, item):
    """The words of an item, a tuple."""
    if isinstance(item, int):
        return (0, item)
    op = item[0]
    if kind != "code":
        return (1,) + name_words(item[1]) + (item[2],)
    if op == "name":
        return (NAME_CODE,) + name_words(item[1]) + (item[2],)
    if op == "far":
        return (CODES.index(op),) + name_words(item[1]) + name_words(item[2]) + (effect_word(item[3], item[4]),)
    if op in BRANCHES:
        return (CODES.index(f"{op} short"),) + name_words(item[1])
    if op == "bring":
        return (CODES.index(op),) + name_words(item[1])
    return (CODES.index(op),) + item[1:]


def take_whole(reader, name, begin):
    """The rest of a section's words behind its name, whose first word has this place."""
    kind, align, fixed = reader.take_kind()
    count = reader.take_word() if kind == "zero" else reader.take_count()
    symbols, exports = reader.take_count(), reader.take_count()
    told = [reader.take_symbol() for _ in range(symbols)]
    effects = [reader.take_export() for _ in range(exports)]
    if kind == "zero":
        items = [0] * count
    else:
        items = [take_item(reader, kind) for _ in range(count)]
    try:
        return Section(name, kind, items, align=align, fixed=fixed, symbols=told, exports=effects)
    except RomError:
        raise Misplaced(begin)


def take_item(reader, kind):
    """An item of a section that is not zero."""
    if kind == "code":
        return take_instruction(reader)
    if reader.take_flag() == 0:
        return reader.take_word()
    name = reader.take_name()
    return ("at", name, reader.take_word())


def take_instruction(reader):
    begin = reader.at
    number = reader.take_word()
    if number == NAME_CODE:
        name = reader.take_name()
        return ("name", name, reader.take_word())
    if not 0 < number < len(CODES) or CODES[number] in NO_UNIT_FORMS:
        raise Misplaced(begin)
    op = op_of(CODES[number])
    if op == "push":
        return (op, reader.take_word())
    if op in BRANCHES or op == "bring":
        return (op, reader.take_name())
    if op == "far":
        peer = reader.take_name()
        return (op, peer, reader.take_name()) + reader.take_effect()
    return (op,)
