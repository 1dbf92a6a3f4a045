"""Trees of rows: the top of some rows, and the rows that a top stands for."""

from topslip.checks import check_depth, check_rows, check_top, count_of_places
from topslip.pairing import pair_of, parts_of


def top_of(depth, rows):
    check_depth(depth)
    check_rows(depth, rows)
    numbers = place_numbers(depth, rows)
    while len(numbers) > 1:
        numbers = paired(numbers)
    return numbers[0]


def rows_of(depth, top):
    check_depth(depth)
    # Asked here too, not by parts_of alone: at depth 0 nothing is taken apart.
    check_top(top)
    numbers = [top]
    while len(numbers) < count_of_places(depth):
        numbers = parted(numbers)
    return [(key, value_by(number)) for key, number in enumerate(numbers) if number > 0]


def place_numbers(depth, rows):
    numbers = [0] * count_of_places(depth)
    for row in rows:
        numbers[row[0]] = number_by(row[1])
    return numbers


def number_by(value):
    # One more than the value, so that a place with the value nought is not like one with none.
    return 0 if value is None else value + 1


def value_by(number):
    return None if number == 0 else number - 1


def paired(numbers):
    return [pair_of(numbers[left], numbers[left + 1]) for left in range(0, len(numbers), 2)]


def parted(numbers):
    parts = []
    for number in numbers:
        parts.extend(parts_of(number))
    return parts
