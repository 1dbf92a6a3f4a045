"""The document's words once more, each by a slow way of its own, to hold the program against.

A part of a tree is told as (first place, count of places).
"""

import itertools
import unittest

from topslip.errors import SlipError

DEPTHS = range(9)
WRONG_DEPTHS = (-1, -2, 9, 10, 64, 1000, 10**99, -(10**99))
LONGEST = 10**100_000 - 1


def wrong_keys(depth):
    return (-1, -2, -(2**depth) - 1, 2**depth, 2**depth + 1, 10**99, -(10**99))


def rows_from(values):
    return [(key, value) for key, value in enumerate(values) if value is not None]


def all_rows(depth, values):
    """Every set of rows that has at each place one of the values or none."""
    return [rows_from(found) for found in itertools.product([None] + list(values), repeat=2**depth)]


def some_rows(depth):
    """A few sets of rows of any depth: none, one row, some, one at each place."""
    places = 2**depth
    found = [[], [(0, 0)], [(places - 1, 7)]]
    for step in (1, 2, 3, 7):
        found.append([(key, (key * key + step) % 13) for key in range(0, places, step)])
    return found


def part_number(rows, part):
    values = dict(rows)

    def number_of(first, count):
        if count == 1:
            return values[first] + 1 if first in values else 0
        left = number_of(first, count // 2)
        right = number_of(first + count // 2, count // 2)
        return (left + right) * (left + right + 1) // 2 + right

    return number_of(*part)


def top_by_hand(depth, rows):
    return part_number(rows, (0, 2**depth))


def all_parts(depth):
    return [(first, 2**level) for level in range(depth + 1) for first in range(0, 2**depth, 2**level)]


def slip_by_hand(depth, rows, key):
    found = []
    for level in range(depth):
        own = key // 2**level
        beside = own + 1 if own % 2 == 0 else own - 1
        found.append(part_number(rows, (beside * 2**level, 2**level)))
    return found


def span_by_hand(depth, rows, first, last):
    outside = [part for part in all_parts(depth) if part[0] > last or part[0] + part[1] - 1 < first]

    def is_greatest(part):
        return not any(
            other != part and other[0] <= part[0] and part[0] + part[1] <= other[0] + other[1] for other in outside
        )

    return [part_number(rows, part) for part in sorted(outside) if is_greatest(part)]


def differing_by_hand(depth, one, two):
    of_one, of_two = dict(one), dict(two)
    keys = [key for key in range(2**depth) if of_one.get(key) != of_two.get(key)]
    opened = [
        part for part in all_parts(depth) if part[1] > 1 and part_number(one, part) != part_number(two, part)
    ]
    return ([(key, of_one.get(key), of_two.get(key)) for key in keys], len(opened))


def first_refusal(faults):
    """Of (is it wrong, its class) in the order of refusals the first that is wrong, or None."""
    return next((refusal for wrong, refusal in faults if wrong), None)


class RefusalCase(unittest.TestCase):
    def check(self, refusal, called, *arguments):
        """It ends with just that class, or well where there is none."""
        try:
            called(*arguments)
        except SlipError as error:
            self.assertIs(type(error), refusal)
        else:
            self.assertIsNone(refusal)
