"""Orders of numbers, texts and tuples of these, which are told without asking objects how they compare."""


def ascending(rows):
    """The rows in ascending order, a list."""
    counts = {}
    for row in rows:
        counts[row] = counts.get(row, 0) + 1
    return [row for row in sorted(set(list(counts))) for _ in range(counts[row])]


def ordered(rows, keys):
    """The rows in the order of their keys, a list; rows with the same key stay as they stood."""
    numbers = [number for _, number in ascending([(key, number) for number, key in enumerate(keys)])]
    return [rows[number] for number in numbers]


def least_of(numbers):
    """The least of some numbers, texts or tuples."""
    least = numbers[0]
    for number in numbers:
        if number < least:
            least = number
    return least


def greatest_of(numbers):
    """The greatest of some numbers, texts or tuples."""
    greatest = numbers[0]
    for number in numbers:
        if number > greatest:
            greatest = number
    return greatest
