"""Pairs: two whole numbers put together to one, and taken apart again."""

from topslip.errors import BadNumber


def pair_of(one, two):
    if one < 0 or two < 0:
        raise BadNumber("a number in a pair is below nought")
    total = one + two
    return pairs_below(total) + two


def parts_of(number):
    if number < 0:
        raise BadNumber("the number of a pair is below nought")
    # The pairs of one total have the numbers from total * (total + 1) / 2 on, and eight of these
    # and one more are the square of 2 * total + 1: so the root of that tells the total.
    total = (root_of(8 * number + 1) - 1) // 2
    two = number - pairs_below(total)
    return (total - two, two)


def pairs_below(total):
    # How many pairs have a lesser total: theirs are the numbers ahead of this total's.
    return total * (total + 1) // 2


def root_of(number):
    # The greatest whole number the square of which is not above this one.
    if number < 16:
        return small_root_of(number)
    # The root of the leading half, one more, is right in half of its figures, so two or three
    # rounds are enough even for a hundred thousand figures. It is never too small, and from above
    # each round comes nearer, until the root itself is reached.
    cut = number.bit_length() // 4
    near = (root_of(number >> (2 * cut)) + 1) << cut
    nearer = (near + number // near) // 2
    while nearer < near:
        near = nearer
        nearer = (near + number // near) // 2
    return near


def small_root_of(number):
    root = 0
    while (root + 1) * (root + 1) <= number:
        root = root + 1
    return root
