"""Spans: what tells all rows from a first key to a last one to one who knows the top alone.

A part of the tree is told as (level, place): level 0 holds the places themselves, level 1 the pairs
of these, and so on; the parts of each level are counted from nought from left to right.
"""

from topslip.checks import check_depth, check_key, check_numbers, check_rows
from topslip.errors import BadSpan
from topslip.tops import paired, place_numbers


def span_for(depth, rows, first, last):
    check_depth(depth)
    check_rows(depth, rows)
    check_span(depth, first, last)
    levels = levels_of(depth, rows)
    return [levels[level][place] for level, place in parts_outside(depth, first, last)]


def is_span(depth, top, first, last, rows, numbers):
    check_depth(depth)
    check_rows(depth, rows)
    check_span(depth, first, last)
    check_numbers(numbers)
    parts = parts_outside(depth, first, last)
    if len(numbers) != len(parts) or not all_within(rows, first, last):
        return False
    within = place_numbers(depth, rows)[first:last + 1]
    return leads_to(depth, top, first, last, within, dict(zip(parts, numbers)))


def check_span(depth, first, last):
    check_key(depth, first)
    check_key(depth, last)
    if last < first:
        raise BadSpan("the last key of a span is less than its first")


def all_within(rows, first, last):
    for row in rows:
        if row[0] < first or row[0] > last:
            return False
    return True


def levels_of(depth, rows):
    # Up to below the top: the whole tree is never outside of a span.
    levels = [place_numbers(depth, rows)]
    while len(levels) < depth:
        levels.append(paired(levels[-1]))
    return levels


def parts_outside(depth, first, last):
    # At each level the parts from low to high have places of the span in them. The part beside low
    # or high that is taken as a pair with it is outside, and the greatest, since that pair isn't;
    # the higher its level, the farther it lies from the span.
    before = []
    behind = []
    low = first
    high = last
    for level in range(depth):
        if low % 2 == 1:
            before.insert(0, (level, low - 1))
        if high % 2 == 0:
            behind.append((level, high + 1))
        low = low // 2
        high = high // 2
    return before + behind


def leads_to(depth, top, first, last, within, outside):
    # What is known of a level is kept without a gap from low to high, so that it can be paired.
    numbers = within
    low = first
    high = last
    for level in range(depth):
        if low % 2 == 1:
            numbers = [outside[(level, low - 1)]] + numbers
        if high % 2 == 0:
            numbers = numbers + [outside[(level, high + 1)]]
        # A pair's number is never less than either part, so what is above the top stays above it.
        # To stop there keeps the numbers short: with each pair their figures are twice as many.
        if max(numbers) > top:
            return False
        numbers = paired(numbers)
        low = low // 2
        high = high // 2
    return numbers[0] == top
