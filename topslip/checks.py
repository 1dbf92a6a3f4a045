"""What more than one file of the program refuses."""

from topslip.errors import BadDepth, BadKey, BadNumber

GREATEST_DEPTH = 8


def check_depth(depth):
    if depth < 0 or depth > GREATEST_DEPTH:
        raise BadDepth("a depth is a whole number from 0 to 8")


def check_rows(depth, rows):
    # Two walks, since a wrong key of any row is told ahead of a wrong value of any.
    check_keys_of_rows(depth, rows)
    for row in rows:
        check_value(row[1])


def check_keys_of_rows(depth, rows):
    met = {}
    for row in rows:
        key = row[0]
        check_key(depth, key)
        if key in met:
            raise BadKey("two rows have the same key")
        met[key] = True


def check_key(depth, key):
    if key < 0 or key >= count_of_places(depth):
        raise BadKey("a key is no place of the tree")


def check_value(value):
    if value < 0:
        raise BadNumber("a value is below nought")


def check_value_or_none(value):
    if value is not None:
        check_value(value)


def check_numbers(numbers):
    for number in numbers:
        if number < 0:
            raise BadNumber("a number of a slip or for a span is below nought")


def check_top(top):
    if top < 0:
        raise BadNumber("a top is below nought")


def count_of_places(depth):
    return 1 << depth
