"""Slips: what tells one key's value, or that it has none, to one who knows the top alone."""

from topslip.checks import check_depth, check_key, check_numbers, check_rows, check_value_or_none
from topslip.errors import NotTaken
from topslip.pairing import pair_of
from topslip.tops import number_by, paired, place_numbers


def slip_for(depth, rows, key):
    check_depth(depth)
    check_rows(depth, rows)
    check_key(depth, key)
    slip = []
    place = key
    numbers = place_numbers(depth, rows)
    while len(numbers) > 1:
        slip.append(numbers[place ^ 1])
        numbers = paired(numbers)
        place = place // 2
    return slip


def is_taken(depth, top, key, value, slip):
    check_depth(depth)
    check_key(depth, key)
    check_value_or_none(value)
    check_numbers(slip)
    return len(slip) == depth and leads_to(top, key, value, slip)


def moved_top(depth, top, key, slip, old, new):
    taken = is_taken(depth, top, key, old, slip)
    # Between the two: what is wrong in the slip's numbers is told first, a slip not taken last.
    check_value_or_none(new)
    if not taken:
        raise NotTaken("the slip is not taken for the key and the old value by the top")
    return led_up(key, new, slip)


def leads_to(top, key, value, slip):
    number = number_by(value)
    place = key
    for beside in slip:
        # A pair's number is never less than either part, so what is above the top stays above it.
        # To stop there keeps the numbers short: with each pair their figures are twice as many.
        if number > top or beside > top:
            return False
        number = pair_at(place, number, beside)
        place = place // 2
    return number == top


def led_up(key, value, slip):
    number = number_by(value)
    place = key
    for beside in slip:
        number = pair_at(place, number, beside)
        place = place // 2
    return number


def pair_at(place, number, beside):
    # Of the two places of a pair the even one stands on the left.
    if place % 2 == 0:
        return pair_of(number, beside)
    return pair_of(beside, number)
