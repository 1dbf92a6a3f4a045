"""Differences: the keys that have not the same value by two tops of trees of one depth."""

from topslip.checks import check_depth, check_top
from topslip.pairing import parts_of
from topslip.tops import value_by


def differing(depth, one, two):
    check_depth(depth)
    check_top(one)
    check_top(two)
    unlike = only_unlike([(0, one, two)])
    opened = 0
    # After as many levels as the depth each part is one place, which is told and not opened.
    for level in range(depth):
        opened = opened + len(unlike)
        unlike = only_unlike(halves_of(unlike))
    return ([(key, value_by(first), value_by(second)) for key, first, second in unlike], opened)


def halves_of(parts):
    halves = []
    for place, first, second in parts:
        in_first = parts_of(first)
        in_second = parts_of(second)
        halves.append((2 * place, in_first[0], in_second[0]))
        halves.append((2 * place + 1, in_first[1], in_second[1]))
    return halves


def only_unlike(parts):
    # Parts with the same number have the same rows, as have all parts within them: they stay shut.
    return [part for part in parts if part[1] != part[2]]
