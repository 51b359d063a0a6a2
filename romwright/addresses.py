"""Values of a run by names: words, and addresses as (number of the section, offset)."""


def bounds_of(size, offset):
    """The least and the greatest word of an address, over all bases of its section."""
    if offset <= size:
        return 1 + offset, 65535 - size + offset
    if offset == 65535:
        return 0, 65534 - size
    return 0, 65535


def moved(address, k):
    return (address[0], (address[1] + k) % 65536)


def can_lie(distance, first, second):
    """Whether a section of the second size can begin at this distance from one of the first size."""
    if distance < 0:
        return can_lie(-distance, second, first)
    return distance + 1 <= 65535 - second and (distance >= first or second == 0)


def meeting_distance(program, left, right):
    """The distance of the sections by which two addresses are the same word on a placement, or None."""
    distance = (left[1] - right[1]) % 65536
    first, second = program.sections[left[0]].size, program.sections[right[0]].size
    for each in (distance, distance - 65536):
        if can_lie(each, first, second):
            return each
    return None


def are_apart(program, left, right):
    """Whether two addresses lie in different parts of one group."""
    first, second = program.parts[left[0]], program.parts[right[0]]
    return first is not None and second is not None and first[0] == second[0] and first[1] != second[1]


def combined(program, op, left, right):
    """What an operator leaves of two values, or None if it hangs."""
    action = OPERATORS[op]
    return action(program, left, right)


def added(program, left, right):
    if isinstance(left, int):
        return (left + right) % 65536 if isinstance(right, int) else moved(right, left)
    return moved(left, right) if isinstance(right, int) else None


def subtracted(program, left, right):
    if isinstance(right, int):
        return (left - right) % 65536 if isinstance(left, int) else moved(left, -right)
    if isinstance(left, int) or left[0] != right[0]:
        return None
    return (left[1] - right[1]) % 65536


def multiplied(program, left, right):
    if isinstance(left, int) and isinstance(right, int):
        return left * right % 65536
    for word, other in ((left, right), (right, left)):
        if isinstance(word, int) and word == 0:
            return 0
        if isinstance(word, int) and word == 1:
            return other
    return None


def same(program, left, right):
    if isinstance(left, int) and isinstance(right, int):
        return 1 if left == right else 0
    if isinstance(left, int):
        return same_word(program, left, right)
    if isinstance(right, int):
        return same_word(program, right, left)
    if left[0] == right[0]:
        return 1 if left[1] == right[1] else 0
    if are_apart(program, left, right):
        return None
    return 0 if meeting_distance(program, left, right) is None else None


def same_word(program, word, address):
    """Whether a word and an address are the same: never, or it hangs."""
    base = (word - address[1]) % 65536
    return None if 1 <= base <= 65535 - program.sections[address[0]].size else 0


def less(program, left, right):
    if isinstance(left, int) and isinstance(right, int):
        return 1 if left < right else 0
    if isinstance(left, int):
        return less_word_left(program, left, right)
    if isinstance(right, int):
        return less_word_right(program, left, right)
    return less_offset(program, left, right) if left[0] == right[0] else None


def less_word_right(program, address, word):
    least, greatest = bounds_of(program.sections[address[0]].size, address[1])
    if greatest < word:
        return 1
    return 0 if least >= word else None


def less_word_left(program, word, address):
    least, greatest = bounds_of(program.sections[address[0]].size, address[1])
    if word < least:
        return 1
    return 0 if word >= greatest else None


def less_offset(program, left, right):
    """Of two addresses of one section."""
    if left[1] == right[1]:
        return 0
    size = program.sections[left[0]].size
    first, second = order_of(size, left[1]), order_of(size, right[1])
    if first is None or second is None:
        return None
    return 1 if first < second else 0


def order_of(size, offset):
    """The place of an offset in the order of the words of a section's addresses, or None if it depends."""
    if offset == 65535:
        return -1
    return offset if offset <= size else None


OPERATORS = {
    "add": added, "sub": subtracted, "mul": multiplied, "same": same, "less": less,
}
