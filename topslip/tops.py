"""Trees of rows: the top of some rows, and the rows that a top stands for."""

from topslip.errors import BadDepth, BadKey, BadNumber
from topslip.pairing import pair_of, parts_of

GREATEST_DEPTH = 8


def top_of(depth, rows):
    check_depth(depth)
    check_rows(depth, rows)
    numbers = place_numbers(depth, rows)
    while len(numbers) > 1:
        numbers = paired(numbers)
    return numbers[0]


def rows_of(depth, top):
    check_depth(depth)
    # Asked here too, not by parts_of alone: at depth 0 nothing is taken apart.
    if top < 0:
        raise BadNumber("a top is below nought")
    numbers = [top]
    while len(numbers) < count_of_places(depth):
        numbers = parted(numbers)
    return [(key, number - 1) for key, number in enumerate(numbers) if number > 0]


def check_depth(depth):
    if depth < 0 or depth > GREATEST_DEPTH:
        raise BadDepth("a depth is a whole number from 0 to 8")


def check_rows(depth, rows):
    # Two walks, since a wrong key of any row is told ahead of a wrong value of any.
    check_keys_of_rows(depth, rows)
    for row in rows:
        check_value(row[1])


def check_keys_of_rows(depth, rows):
    met = {}
    for row in rows:
        key = row[0]
        check_key(depth, key)
        if key in met:
            raise BadKey("two rows have the same key")
        met[key] = True


def check_key(depth, key):
    if key < 0 or key >= count_of_places(depth):
        raise BadKey("a key is no place of the tree")


def check_value(value):
    if value < 0:
        raise BadNumber("a value is below nought")


def count_of_places(depth):
    return 1 << depth


def place_numbers(depth, rows):
    # One more than the value, so that a row with the value nought is not like no row.
    numbers = [0] * count_of_places(depth)
    for row in rows:
        numbers[row[0]] = row[1] + 1
    return numbers


def paired(numbers):
    return [pair_of(numbers[left], numbers[left + 1]) for left in range(0, len(numbers), 2)]


def parted(numbers):
    parts = []
    for number in numbers:
        parts.extend(parts_of(number))
    return parts
